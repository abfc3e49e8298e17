/-
  The contracts of package frac's Add and Sub.
-/
import Derived.Test.YtnfddeoddjmpkabDoorMul
namespace Go.Proofs.YtnfddeoddjmpkabDoor
open Go.RowKit
set_option maxHeartbeats 8000000
theorem addO_steps {a c : Int} {B D g b' d' : Nat} {T : Int} (h1 : okF a (B : Int) = true) (h2 : okF c (D : Int) = true) (hg : Nat.gcd B D = g) (hb : B / g = b') (hd : D / g = d') (hT : a * (d' : Int) + c * (b' : Int) = T) :
    addO a B c D = cut (sg (decide (T < 0)) (T.natAbs / Nat.gcd T.natAbs g)) (b' * (D / Nat.gcd T.natAbs g)) := by
  obtain ⟨c1, -, z1, -⟩ := okF_co h1
  obtain ⟨c2, -, z2, -⟩ := okF_co h2
  rw [show absN (B : Int) = B from Int.natAbs_natCast B] at c1 z1
  rw [show absN (D : Int) = D from Int.natAbs_natCast D] at c2 z2
  have hg0 : 0 < g := by rw [← hg]; exact Nat.gcd_pos_of_pos_right _ z2
  have e1 : B = g * b' := by
    have := Nat.gcd_dvd_left B D
    rw [hg] at this
    rw [← hb, Nat.mul_div_cancel' this]
  have e2 : D = g * d' := by
    have := Nat.gcd_dvd_right B D
    rw [hg] at this
    rw [← hd, Nat.mul_div_cancel' this]
  have hb0 : b' ≠ 0 := by rintro rfl; omega
  have hd0 : d' ≠ 0 := by rintro rfl; omega
  have co : Nat.Coprime b' d' := by
    have := Nat.coprime_div_gcd_div_gcd (m := B) (n := D) (by rw [hg]; exact hg0)
    rwa [hg, hb, hd] at this
  have hs := (add_steps (an := a) (cn := c) (Nat.ne_of_gt hg0) hb0 hd0 co (by rw [← e1]; exact c1) (by rw [← e2]; exact c2) hT).2
  rw [← e1, ← e2] at hs
  unfold addO
  rw [both_yes h1 h2, qv_add (by omega) (by omega), Int.natAbs_natCast, Int.natAbs_natCast]
  exact hs
theorem mul_small {a : Int} {n : Nat} (h0 : -4611686018427387904 ≤ a) (h1 : a ≤ 4611686018427387904) (hn : n ≤ 1000000000000000) : -4611686018427387904000000000000000 ≤ a * (n : Int) ∧ a * (n : Int) ≤ 4611686018427387904000000000000000 := by
  have u1 : a * (n : Int) ≤ 4611686018427387904 * (n : Int) := Int.mul_le_mul_of_nonneg_right h1 (by omega)
  have u2 : -4611686018427387904 * (n : Int) ≤ a * (n : Int) := Int.mul_le_mul_of_nonneg_right h0 (by omega)
  omega
def AddCut (w : World) (a b c d x y : Int) (s : Value) (wx : World) : Prop :=
  ∃ g, s = .pointer (some ⟨g, 0, none⟩) ∧ two wx g (.int .i64 x) (.int .u64 y) ∧ two wx w.heap.size (.int .i64 a) (.int .i64 b) ∧ two wx (w.heap.size + 1) (.int .i64 c) (.int .i64 d) ∧
    two wx (w.heap.size + 1 + 1) (.int .i64 0) (.int .i64 0) ∧ Below w.heap.size w wx
set_option maxRecDepth 100000 in
theorem add_both (a c : Int) (B D : Nat) (h1 : okF a (B : Int) = true) (h2 : okF c (D : Int) = true) (w : World) :
    Calls Tryd.prog 8 #[.agg #[.int .i64 a, .int .i64 (B : Int)], .agg #[.int .i64 c, .int .i64 (D : Int)]] w (Gives (.tuple #[.agg #[.int .i64 (oN (addO a B c D)), .int .i64 (oD (addO a B c D))], .bool (oB (addO a B c D))]) w) := by
  have H1 := Lib.hid h1
  have H2 := Lib.hid h2
  obtain ⟨p1, p2, p3, p4, -⟩ := okF_true h1
  obtain ⟨q1, q2, q3, q4, -⟩ := okF_true h2
  obtain ⟨g, eg⟩ : ∃ g, Nat.gcd B D = g := ⟨_, rfl⟩
  obtain ⟨b', eb⟩ : ∃ b', B / g = b' := ⟨_, rfl⟩
  obtain ⟨d', ed⟩ : ∃ d', D / g = d' := ⟨_, rfl⟩
  obtain ⟨T1, eT1⟩ : ∃ T, a * (d' : Int) = T := ⟨_, rfl⟩
  obtain ⟨T2, eT2⟩ : ∃ T, c * (b' : Int) = T := ⟨_, rfl⟩
  obtain ⟨T, eT⟩ : ∃ T, T1 + T2 = T := ⟨_, rfl⟩
  rw [addO_steps (T := T) h1 h2 eg eb ed (by rw [eT1, eT2]; exact eT)]
  have g0 : 0 < g := by rw [← eg]; exact Nat.gcd_pos_of_pos_right _ (by omega)
  have g1 : g ≤ 1000000000000000 := by rw [← eg]; exact Nat.le_trans (Nat.gcd_le_left _ (by omega)) (by omega)
  have b1 : b' ≤ 1000000000000000 := by rw [← eb]; exact Nat.le_trans (Nat.div_le_self _ _) (by omega)
  have d1 : d' ≤ 1000000000000000 := by rw [← ed]; exact Nat.le_trans (Nat.div_le_self _ _) (by omega)
  have sT1 := mul_small p3 p4 d1
  have sT2 := mul_small q3 q4 b1
  rw [eT1] at sT1
  rw [eT2] at sT2
  obtain ⟨m, em⟩ : ∃ m, T.natAbs = m := ⟨_, rfl⟩
  have hm : m ≤ 9223372036854775808000000000000000 := by omega
  rw [em]
  obtain ⟨r, er⟩ : ∃ r, Nat.gcd m g = r := ⟨_, rfl⟩
  have r0 : 0 < r := by rw [← er]; exact Nat.gcd_pos_of_pos_right _ g0
  have r1 : r ≤ g := by rw [← er]; exact Nat.gcd_le_right _ g0
  rw [er]
  obtain ⟨t, et⟩ : ∃ t, m / r = t := ⟨_, rfl⟩
  obtain ⟨k, ek⟩ : ∃ k, D / r = k := ⟨_, rfl⟩
  have k1 : k ≤ 1000000000000000 := by rw [← ek]; exact Nat.le_trans (Nat.div_le_self _ _) (by omega)
  obtain ⟨p, ep⟩ : ∃ p, b' * k = p := ⟨_, rfl⟩
  have pp : p ≤ 1000000000000000000000000000000 := by rw [← ep]; exact Nat.mul_le_mul b1 k1
  rw [et, ek, ep]
  obtain ⟨s, es⟩ : ∃ s, m % g = s := ⟨_, rfl⟩
  have s1 : s < g := by rw [← es]; exact Nat.mod_lt _ g0
  have er2 : Nat.gcd s g = r := by rw [← es, ← er, ← Nat.gcd_rec, Nat.gcd_comm]
  have V1 := Lib.hid (times_any a d' T1 (by omega) (by omega) (by omega) (by omega) eT1)
  have V2 := Lib.hid (times_any c b' T2 (by omega) (by omega) (by omega) (by omega) eT2)
  have V3 := Lib.hid (plus_any T1 T2 ⟨by omega, by omega⟩ ⟨by omega, by omega⟩)
  rw [eT] at V3
  have V4 := Lib.hid (wmag_any T m ⟨by omega, by omega⟩ em)
  obtain ⟨mh, emh⟩ : ∃ h, m / 18446744073709551616 = h := ⟨_, rfl⟩
  obtain ⟨ml, eml⟩ : ∃ h, m % 18446744073709551616 = h := ⟨_, rfl⟩
  rw [emh, eml] at V4
  obtain ⟨x, ex⟩ : ∃ x, T / 18446744073709551616 = x := ⟨_, rfl⟩
  obtain ⟨y, ey⟩ : ∃ y, T % 18446744073709551616 = y := ⟨_, rfl⟩
  rw [ex, ey] at V3 V4
  rw [show decide (T < 0) = decide (x < 0) by rw [decide_eq_decide]; omega]
  have emm : mh * 18446744073709551616 + ml = m := by omega
  have mh1 : mh < 18446744073709551616 := by omega
  have ml1 : ml < 18446744073709551616 := by omega
  obtain ⟨m2, em2⟩ : ∃ x, m % r = x := ⟨_, rfl⟩
  have tt : r ≤ mh → 18446744073709551616 ≤ t := fun h => by
    rw [← et, Nat.le_div_iff_mul_le r0, ← emm, Nat.mul_comm]
    exact Nat.le_trans (Nat.mul_le_mul_right _ h) (Nat.le_add_right _ _)
  have V6 : Hid (mh < r → ∀ w : World, Calls Tryd.prog 27 #[.int .u64 mh, .int .u64 ml, .int .u64 r] w (Quiet (.tuple #[.int .u64 (t : Nat), .int .u64 (m2 : Nat)]) w)) :=
    fun h w => div64_any mh ml r t m2 h ml1 (by omega) (by rw [emm]; exact et) (by rw [emm]; exact em2) w
  have t64 : mh < r → t < 18446744073709551616 := fun h => by
    rw [← et, Nat.div_lt_iff_lt_mul r0, ← emm]
    have : (mh + 1) * 18446744073709551616 ≤ r * 18446744073709551616 := Nat.mul_le_mul_right _ h
    rw [Nat.mul_comm]; omega
  obtain ⟨ph, eph⟩ : ∃ x, p / 18446744073709551616 = x := ⟨_, rfl⟩
  obtain ⟨pl, epl⟩ : ∃ x, p % 18446744073709551616 = x := ⟨_, rfl⟩
  have V7 := Lib.hid (mul64_any b' k ph pl (by omega) (by omega) (by rw [ep]; exact eph) (by rw [ep]; exact epl))
  have V5 := Lib.hid (rem64_any mh ml g s mh1 ml1 g0 (by omega) (by rw [emm]; exact es))
  have G1 := Lib.hid eg
  have G2 := Lib.hid er2
  have c1 := div_nat eb
  have c2 := div_nat ed
  have c3 := div_nat ek
  have c4 : (B : Int).tdiv (g : Int) = (b' : Int) := by rw [Int.tdiv_eq_ediv_of_nonneg (by omega)]; exact c1
  have c5 : (D : Int).tdiv (g : Int) = (d' : Int) := by rw [Int.tdiv_eq_ediv_of_nonneg (by omega)]; exact c2
  have c6 : IntKind.i64.wrap (b' : Int) = (b' : Int) := by rw [IntKind.wrap_i64]; omega
  have c7 : IntKind.i64.wrap (d' : Int) = (d' : Int) := by rw [IntKind.wrap_i64]; omega
  have c8 : IntKind.i64.wrap (g : Int) = (g : Int) := by rw [IntKind.wrap_i64]; omega
  have c9 : IntKind.u64.wrap (k : Int) = (k : Int) := wrap_id (by omega)
  have g2 : ¬ g = 0 := by omega
  have r2 : ¬ r = 0 := by omega
  have nB : absN (B : Int) = B := Int.natAbs_natCast B
  have nD : absN (D : Int) = D := Int.natAbs_natCast D
  have nb : absN (b' : Int) = b' := Int.natAbs_natCast b'
  clear h1 h2 eb ed eT1 eT2 eT em er ek es er2 emh eml ex ey emm et em2 ep hm sT1 sT2
  have TT := Lib.hid tt
  have T64 := Lib.hid t64
  have EPH := Lib.hid eph
  have EPL := Lib.hid epl
  clear tt t64 eph epl
  go_enter Tryd.func8, Tryd.ntmps8
  go_wp2_with fail
  refine (valid_any a B (by omega) (by omega) (by omega) (by omega) _).mono ?_
  rintro e w1 ⟨rfl, hb1⟩
  rw [H1.out]
  have A1 : two w1 (w.heap.size) (.int .i64 a) (.int .i64 B) := two.call (by refine ⟨?_, ?_, ?_, ?_, ?_⟩ <;> first | (go_simp; done) | (simp; done) | (simp; omega)) hb1
  have B1 : two w1 (w.heap.size + 1) (.int .i64 c) (.int .i64 D) := two.call (by refine ⟨?_, ?_, ?_, ?_, ?_⟩ <;> first | (go_simp; done) | (simp; done) | (simp; omega)) hb1
  have C1 : two w1 (w.heap.size + 1 + 1) (.int .i64 0) (.int .i64 0) := two.call (by refine ⟨?_, ?_, ?_, ?_, ?_⟩ <;> first | (go_simp; done) | (simp; done) | (simp; omega)) hb1
  obtain ⟨b0, b1, b2, b3, b4⟩ := B1
  have B1 : two _ _ _ _ := ⟨b0, b1, b2, b3, b4⟩
  go_wp2_with fail
  refine (valid_any c D (by omega) (by omega) (by omega) (by omega) _).mono ?_
  rintro e w2 ⟨rfl, hb2⟩
  rw [H2.out]
  clear b0 b1 b2 b3 b4
  have A2 := A1.call hb2
  have B2 := B1.call hb2
  have C2 := C1.call hb2
  clear A1 B1 C1
  have zc2 := C2.2.2.2.2
  obtain ⟨a0, a1, a2, a3, a4⟩ := A2
  have A2 : two _ _ _ _ := ⟨a0, a1, a2, a3, a4⟩
  obtain ⟨b0, b1, b2, b3, b4⟩ := B2
  have B2 : two _ _ _ _ := ⟨b0, b1, b2, b3, b4⟩
  go_wp2_with fail
  go_quiet ((first | (go_at_call 22; exact quiet_left (magnitude_any _ (by omega) (by omega) _)) | (go_at_call 21; exact quiet_sum (gcd_any _ _ (by omega) (by omega) _))))
  go_upto_region 4 with (fail)
  go_cut [7] (AddCut w a B c D x y)
  case first =>
    go_region_held3 (fun w' => w'.cell? ⟨w.heap.size, 0, none⟩ = some (.int .i64 a) ∧ w'.cell? ⟨w.heap.size, 1, none⟩ = some (.int .i64 (B : Int)) ∧ w'.cell? ⟨w.heap.size + 1, 0, none⟩ = some (.int .i64 c) ∧ w'.cell? ⟨w.heap.size + 1, 1, none⟩ = some (.int .i64 (D : Int))) (first | exact ⟨A5.1, A5.2.1, B5.1, B5.2.1⟩ | exact ⟨(two.alloc A5).1, (two.alloc A5).2.1, (two.alloc B5).1, (two.alloc B5).2.1⟩ | exact ⟨(two.far A5 (by omega)).1, (two.far A5 (by omega)).2.1, (two.far B5 (by omega)).1, (two.far B5 (by omega)).2.1⟩ | exact ⟨A4.1, A4.2.1, B4.1, B4.2.1⟩ | exact ⟨(two.alloc A4).1, (two.alloc A4).2.1, (two.alloc B4).1, (two.alloc B4).2.1⟩ | exact ⟨(two.far A4 (by omega)).1, (two.far A4 (by omega)).2.1, (two.far B4 (by omega)).1, (two.far B4 (by omega)).2.1⟩ | exact ⟨A3.1, A3.2.1, B3.1, B3.2.1⟩ | exact ⟨(two.alloc A3).1, (two.alloc A3).2.1, (two.alloc B3).1, (two.alloc B3).2.1⟩ | exact ⟨(two.far A3 (by omega)).1, (two.far A3 (by omega)).2.1, (two.far B3 (by omega)).1, (two.far B3 (by omega)).2.1⟩ | exact ⟨A2.1, A2.2.1, B2.1, B2.2.1⟩ | exact ⟨(two.alloc A2).1, (two.alloc A2).2.1, (two.alloc B2).1, (two.alloc B2).2.1⟩ | exact ⟨(two.far A2 (by omega)).1, (two.far A2 (by omega)).2.1, (two.far B2 (by omega)).1, (two.far B2 (by omega)).2.1⟩)
      (first
        | (go_at_call_of 23 (Value.int .i64 a); refine (V1.out _).mono ?_; rintro e w3 ⟨rfl, hb3⟩; (first | (have D3 := two.on hb3 D2; have A3 := two.on hb3 A2; have B3 := two.on hb3 B2; have C3 := two.on hb3 C2; have za3 := A3.2.2.2.2; have zb3 := B3.2.2.2.2; have zc3 := C3.2.2.2.2; have zd3 := D3.2.2.2.2) | (have D3 : two _ w2.heap.size _ _ := two.on hb3 two.new; have A3 := two.on hb3 (two.alloc A2); have B3 := two.on hb3 (two.alloc B2); have C3 := two.on hb3 (two.alloc C2); have za3 := A3.2.2.2.2; have zb3 := B3.2.2.2.2; have zc3 := C3.2.2.2.2; have zd3 := D3.2.2.2.2) | (have A3 := two.on hb3 A2; have B3 := two.on hb3 B2; have C3 := two.on hb3 C2; have za3 := A3.2.2.2.2; have zb3 := B3.2.2.2.2; have zc3 := C3.2.2.2.2)))
        | (go_at_call_of 23 (Value.int .i64 c); refine (V2.out _).mono ?_; rintro e w4 ⟨rfl, hb4⟩; (first | (have D4 := two.on hb4 D3; have A4 := two.on hb4 A3; have B4 := two.on hb4 B3; have C4 := two.on hb4 C3; have za4 := A4.2.2.2.2; have zb4 := B4.2.2.2.2; have zc4 := C4.2.2.2.2; have zd4 := D4.2.2.2.2) | (have D4 : two _ w3.heap.size _ _ := two.on hb4 two.new; have A4 := two.on hb4 (two.alloc A3); have B4 := two.on hb4 (two.alloc B3); have C4 := two.on hb4 (two.alloc C3); have za4 := A4.2.2.2.2; have zb4 := B4.2.2.2.2; have zc4 := C4.2.2.2.2; have zd4 := D4.2.2.2.2) | (have A4 := two.on hb4 A3; have B4 := two.on hb4 B3; have C4 := two.on hb4 C3; have za4 := A4.2.2.2.2; have zb4 := B4.2.2.2.2; have zc4 := C4.2.2.2.2)))
        | (go_at_call 24; refine (V3.out _).mono ?_; rintro e w5 ⟨rfl, hb5⟩; (first | (have D5 := two.on hb5 D4; have A5 := two.on hb5 A4; have B5 := two.on hb5 B4; have C5 := two.on hb5 C4; have za5 := A5.2.2.2.2; have zb5 := B5.2.2.2.2; have zc5 := C5.2.2.2.2; have zd5 := D5.2.2.2.2) | (have D5 : two _ w4.heap.size _ _ := two.on hb5 two.new; have A5 := two.on hb5 (two.alloc A4); have B5 := two.on hb5 (two.alloc B4); have C5 := two.on hb5 (two.alloc C4); have za5 := A5.2.2.2.2; have zb5 := B5.2.2.2.2; have zc5 := C5.2.2.2.2; have zd5 := D5.2.2.2.2) | (have A5 := two.on hb5 A4; have B5 := two.on hb5 B4; have C5 := two.on hb5 C4; have za5 := A5.2.2.2.2; have zb5 := B5.2.2.2.2; have zc5 := C5.2.2.2.2)); (first | (obtain ⟨d0, d1, d2, d3, d4⟩ := D5; have D5 : two _ _ _ _ := ⟨d0, d1, d2, d3, d4⟩) | skip)))
    all_goals
      go_wp2_with fail
      go_meet
      first
        | exact ⟨_, rfl, two.new, A5.alloc, B5.alloc, C5.alloc, by repeat (first | exact Below.refl _ _ | assumption | apply bl_alloc | apply bl_drewN | apply bl_drew | (refine bl_set ?_ (by first | (simp; done) | (simp; omega)) _) | (refine bl_call ?_ (by assumption)))⟩
        | exact ⟨_, rfl, two.set2 D5, two.far A5 (by omega), two.far B5 (by omega), two.far C5 (by omega), by repeat (first | exact Below.refl _ _ | assumption | apply bl_alloc | apply bl_drewN | apply bl_drew | (refine bl_set ?_ (by first | (simp; done) | (simp; omega)) _) | (refine bl_call ?_ (by assumption)))⟩
  case rest =>
    obtain ⟨gT, rfl, T5, A5, B5, C5, hB⟩ := hcut
    obtain ⟨t0, t1, t2, t3, t4⟩ := T5
    have T5 : two _ _ _ _ := ⟨t0, t1, t2, t3, t4⟩
    go_wp2_with fail
    refine (V4.out _).mono ?_
    rintro e w6 ⟨rfl, hb6⟩
    clear t0 t1 t2 t3 t4
    have T6 := T5.call hb6
    have A6 := two.on hb6 A5
    have B6 := two.on hb6 B5
    have C6 := two.on hb6 C5
    go_wp2_with fail
    refine (V5.out _).mono ?_
    rintro e w' ⟨rfl, n1, rfl⟩
    go_wp2_with fail
    refine (gcd_any _ _ (by omega) (by omega) _).mono ?_
    rintro e w' ⟨rfl, n2, rfl⟩
    rw [G2.out]
    by_cases hq : r ≤ mh
    · have hno := Lib.hid (cut_no (n := sg (decide (x < 0)) t) (d := p) (by rw [sg_natAbs]; have := TT.out hq; omega))
      obtain ⟨c0, c1, c2, c3, c4⟩ := C6
      have C6 : two _ _ _ _ := ⟨c0, c1, c2, c3, c4⟩
      go_wp2_with fail
      exact bodyPost_ret (v := .tuple #[.agg #[.int .i64 (oN (none)), .int .i64 (oD (none))], .bool (oB (none))]) (by simp [results, Tryd.results8, go_sem, oN, oD, oB, *]) rfl ⟨by rw [hno.out], by repeat (first | exact Below.refl _ _ | assumption | apply bl_alloc | apply bl_drewN | apply bl_drew | (refine bl_set ?_ (by first | (simp; done) | (simp; omega)) _) | (refine bl_call ?_ (by assumption)))⟩
    · have hq : mh < r := by omega
      have V6 := Lib.hid (V6.out hq)
      have t64 := T64.out hq
      go_wp2_with fail
      refine (V6.out _).mono ?_
      rintro e w' ⟨rfl, n3, rfl⟩
      obtain ⟨a0, a1, a2, a3, a4⟩ := A6
      have A6 : two _ _ _ _ := ⟨a0, a1, a2, a3, a4⟩
      obtain ⟨b0, b1, b2, b3, b4⟩ := B6
      have B6 : two _ _ _ _ := ⟨b0, b1, b2, b3, b4⟩
      go_wp2_with fail
      go_region_held3 (fun w' => w'.cell? ⟨w.heap.size, 1, none⟩ = some (.int .i64 (B : Int)) ∧ w'.cell? ⟨w.heap.size + 1, 1, none⟩ = some (.int .i64 (D : Int))) (go_keep)
        (first
          | (go_at_call 22; refine (magnitude_any _ (by omega) (by omega) _).mono ?_; rintro e w' ⟨rfl, rfl⟩)
          | (go_at_call 28; refine (V7.out _).mono ?_; rintro e w' ⟨rfl, rfl⟩))
      by_cases hp : ph = 0
      · subst hp
        have hpl := EPL.out
        have hph := EPH.out
        have hpp : p = pl := by omega
        have HP := Lib.hid hpp
        have pl64 : pl < 18446744073709551616 := by omega
        clear hpl hph hpp
        obtain ⟨t0, t1, t2, t3, t4⟩ := T6
        have T6 : two _ _ _ _ := ⟨t0, t1, t2, t3, t4⟩
        obtain ⟨c0, c1, c2, c3, c4⟩ := C6
        have C6 : two _ _ _ _ := ⟨c0, c1, c2, c3, c4⟩
        clear a0 a1 a2 a3 a4 b0 b1 b2 b3 b4
        go_wp2_with fail
        refine (fraction_any (decide (x < 0)) t pl t64 pl64 _).mono ?_
        rintro e w7 ⟨rfl, hb7⟩
        have C7 := two.on hb7 C6
        clear t0 t1 t2 t3 t4 c0 c1 c2 c3 c4
        obtain ⟨c0, c1, c2, c3, c4⟩ := C7
        have C7 : two _ _ _ _ := ⟨c0, c1, c2, c3, c4⟩
        go_wp2_with fail
        exact bodyPost_ret (v := .tuple #[.agg #[.int .i64 (oN (cut (sg (decide (x < 0)) t) pl)), .int .i64 (oD (cut (sg (decide (x < 0)) t) pl))], .bool (oB (cut (sg (decide (x < 0)) t) pl))]) (by simp [results, Tryd.results8, go_sem, *]) rfl ⟨by rw [HP.out], by repeat (first | exact Below.refl _ _ | assumption | apply bl_alloc | apply bl_drewN | apply bl_drew | (refine bl_set ?_ (by first | (simp; done) | (simp; omega)) _) | (refine bl_call ?_ (by assumption)))⟩
      · have hno := Lib.hid (cut_no (n := sg (decide (x < 0)) t) (d := p) (by have := EPH.out; omega))
        have k9 : ((ph : Int) != 0) = true := by rw [bne_iff_ne]; omega
        obtain ⟨c0, c1, c2, c3, c4⟩ := C6
        have C6 : two _ _ _ _ := ⟨c0, c1, c2, c3, c4⟩
        clear hp
        go_wp2_with fail
        exact bodyPost_ret (v := .tuple #[.agg #[.int .i64 (oN (none)), .int .i64 (oD (none))], .bool (oB (none))]) (by simp [results, Tryd.results8, go_sem, oN, oD, oB, *]) rfl ⟨by rw [hno.out], by repeat (first | exact Below.refl _ _ | assumption | apply bl_alloc | apply bl_drewN | apply bl_drew | (refine bl_set ?_ (by first | (simp; done) | (simp; omega)) _) | (refine bl_call ?_ (by assumption)))⟩
end Go.Proofs.YtnfddeoddjmpkabDoor
