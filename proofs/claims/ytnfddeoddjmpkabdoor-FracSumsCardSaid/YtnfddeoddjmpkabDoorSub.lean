/-
  The contracts of package frac's Add and Sub at every pair of arguments, and of Cmp.
-/
import Derived.Test.YtnfddeoddjmpkabDoorAdd
namespace Go.Proofs.YtnfddeoddjmpkabDoor
open Go.RowKit
set_option maxHeartbeats 4000000
set_option maxRecDepth 100000 in
theorem add_any (a b c d : Int) (n0 : -9223372036854775808 ≤ a) (n1 : a ≤ 9223372036854775807) (d0 : -9223372036854775808 ≤ b) (d1 : b ≤ 9223372036854775807) (m0 : -9223372036854775808 ≤ c) (m1 : c ≤ 9223372036854775807) (f0 : -9223372036854775808 ≤ d) (f1 : d ≤ 9223372036854775807) (w : World) :
    Calls Tryd.prog 8 #[.agg #[.int .i64 a, .int .i64 b], .agg #[.int .i64 c, .int .i64 d]] w (Gives (.tuple #[.agg #[.int .i64 (oN (addO a b c d)), .int .i64 (oD (addO a b c d))], .bool (oB (addO a b c d))]) w) := by
  cases h1 : okF a b
  · rw [show addO a b c d = none from both_no1 h1]
    have H1 := Lib.hid h1
    clear h1
    go_enter Tryd.func8, Tryd.ntmps8
    go_wp2_with fail
    refine (valid_any a b (by omega) (by omega) (by omega) (by omega) _).mono ?_
    rintro e w1 ⟨rfl, hb1⟩
    rw [H1.out]
    have C1 : two w1 (w.heap.size + 1 + 1) (.int .i64 0) (.int .i64 0) := two.call (by refine ⟨?_, ?_, ?_, ?_, ?_⟩ <;> first | (go_simp; done) | (simp; done) | (simp; omega)) hb1
    obtain ⟨c0, c1, c2, c3, c4⟩ := C1
    have C1 : two _ _ _ _ := ⟨c0, c1, c2, c3, c4⟩
    go_wp2_with fail
    exact bodyPost_ret (v := .tuple #[.agg #[.int .i64 (oN (none)), .int .i64 (oD (none))], .bool (oB (none))]) (by simp [results, Tryd.results8, go_sem, oN, oD, oB, *]) rfl ⟨rfl, by repeat (first | exact Below.refl _ _ | assumption | apply bl_alloc | apply bl_drewN | apply bl_drew | (refine bl_set ?_ (by first | (simp; done) | (simp; omega)) _) | (refine bl_call ?_ (by assumption)))⟩
  · have H1 := Lib.hid h1
    cases h2 : okF c d
    · rw [show addO a b c d = none from both_no2 h2]
      have H2 := Lib.hid h2
      clear h1 h2
      go_enter Tryd.func8, Tryd.ntmps8
      go_wp2_with fail
      refine (valid_any a b (by omega) (by omega) (by omega) (by omega) _).mono ?_
      rintro e w1 ⟨rfl, hb1⟩
      rw [H1.out]
      have B1 : two w1 (w.heap.size + 1) (.int .i64 c) (.int .i64 d) := two.call (by refine ⟨?_, ?_, ?_, ?_, ?_⟩ <;> first | (go_simp; done) | (simp; done) | (simp; omega)) hb1
      have C1 : two w1 (w.heap.size + 1 + 1) (.int .i64 0) (.int .i64 0) := two.call (by refine ⟨?_, ?_, ?_, ?_, ?_⟩ <;> first | (go_simp; done) | (simp; done) | (simp; omega)) hb1
      obtain ⟨b0, b1, b2, b3, b4⟩ := B1
      have B1 : two _ _ _ _ := ⟨b0, b1, b2, b3, b4⟩
      go_wp2_with fail
      refine (valid_any c d (by omega) (by omega) (by omega) (by omega) _).mono ?_
      rintro e w2 ⟨rfl, hb2⟩
      rw [H2.out]
      have C2 := C1.call hb2
      clear b0 b1 b2 b3 b4
      obtain ⟨c0, c1, c2, c3, c4⟩ := C2
      have C2 : two _ _ _ _ := ⟨c0, c1, c2, c3, c4⟩
      go_wp2_with fail
      exact bodyPost_ret (v := .tuple #[.agg #[.int .i64 (oN (none)), .int .i64 (oD (none))], .bool (oB (none))]) (by simp [results, Tryd.results8, go_sem, oN, oD, oB, *]) rfl ⟨rfl, by repeat (first | exact Below.refl _ _ | assumption | apply bl_alloc | apply bl_drewN | apply bl_drew | (refine bl_set ?_ (by first | (simp; done) | (simp; omega)) _) | (refine bl_call ?_ (by assumption)))⟩
    · obtain ⟨B, rfl⟩ := Int.eq_ofNat_of_zero_le (a := b) (by have := (okF_true h1).1; omega)
      obtain ⟨D, rfl⟩ := Int.eq_ofNat_of_zero_le (a := d) (by have := (okF_true h2).1; omega)
      exact add_both a c B D h1 h2 w
def negW (n : Int) : Int := if n = -9223372036854775808 then n else -n
theorem negW_in {n : Int} (h0 : -9223372036854775808 ≤ n) (h1 : n ≤ 9223372036854775807) : -9223372036854775808 ≤ negW n ∧ negW n ≤ 9223372036854775807 := by unfold negW; split <;> omega
theorem okF_neg {n d : Int} : okF (-n) d = okF n d := by
  unfold okF
  rw [Int.natAbs_neg, decide_eq_decide]
  constructor <;> (rintro ⟨h1, h2, h3, h4, h5⟩; exact ⟨h1, h2, by omega, by omega, h5⟩)
theorem sub_is {a b c d : Int} : addO a b (negW c) d = subO a b c d := by
  unfold negW
  split
  · rename_i h
    have hn : okF c d = false := okF_out (by unfold inR; omega)
    exact (both_no2 hn).trans (both_no2 hn).symm
  · unfold addO subO both
    rw [okF_neg, qv_neg, ← Rat.sub_eq_add_neg]
theorem orZero_any (a b : Int) (n0 : -9223372036854775808 ≤ a) (n1 : a ≤ 9223372036854775807) (d0 : -9223372036854775808 ≤ b) (d1 : b ≤ 9223372036854775807) (w : World) : Calls Tryd.prog 42 #[.agg #[.int .i64 a, .int .i64 b]] w (Gives (.agg #[.int .i64 (uN a b), .int .i64 (uD a b)]) w) := by
  cases h1 : okF a b
  · obtain ⟨e1, e2⟩ := use_no h1
    rw [e1, e2]
    have H1 := Lib.hid h1
    clear h1 e1 e2
    go_enter Tryd.func42, Tryd.ntmps42
    go_wp2_with fail
    refine (valid_any a b (by omega) (by omega) (by omega) (by omega) _).mono ?_
    rintro e w1 ⟨rfl, hb1⟩
    rw [H1.out]
    have C1 : two w1 (w.heap.size + 1) (.int .i64 0) (.int .i64 0) := two.call (by refine ⟨?_, ?_, ?_, ?_, ?_⟩ <;> first | (go_simp; done) | (simp; done) | (simp; omega)) hb1
    obtain ⟨c0, c1, c2, c3, c4⟩ := C1
    have C1 : two _ _ _ _ := ⟨c0, c1, c2, c3, c4⟩
    go_wp2_with fail
    exact bodyPost_ret (v := .agg #[.int .i64 0, .int .i64 1]) (by simp [results, Tryd.results42, go_sem, *]) rfl ⟨rfl, by repeat (first | exact Below.refl _ _ | assumption | apply bl_alloc | apply bl_drewN | apply bl_drew | (refine bl_set ?_ (by first | (simp; done) | (simp; omega)) _) | (refine bl_call ?_ (by assumption)))⟩
  · obtain ⟨e1, e2⟩ := use_ok h1
    rw [e1, e2]
    have H1 := Lib.hid h1
    clear h1 e1 e2
    go_enter Tryd.func42, Tryd.ntmps42
    go_wp2_with fail
    refine (valid_any a b (by omega) (by omega) (by omega) (by omega) _).mono ?_
    rintro e w1 ⟨rfl, hb1⟩
    rw [H1.out]
    have A1 : two w1 (w.heap.size) (.int .i64 a) (.int .i64 b) := two.call (by refine ⟨?_, ?_, ?_, ?_, ?_⟩ <;> first | (go_simp; done) | (simp; done) | (simp; omega)) hb1
    have C1 : two w1 (w.heap.size + 1) (.int .i64 0) (.int .i64 0) := two.call (by refine ⟨?_, ?_, ?_, ?_, ?_⟩ <;> first | (go_simp; done) | (simp; done) | (simp; omega)) hb1
    obtain ⟨a0, a1, a2, a3, a4⟩ := A1
    have A1 : two _ _ _ _ := ⟨a0, a1, a2, a3, a4⟩
    obtain ⟨c0, c1, c2, c3, c4⟩ := C1
    have C1 : two _ _ _ _ := ⟨c0, c1, c2, c3, c4⟩
    go_wp2_with fail
    exact bodyPost_ret (v := .agg #[.int .i64 a, .int .i64 b]) (by simp [results, Tryd.results42, go_sem, *]) rfl ⟨rfl, by repeat (first | exact Below.refl _ _ | assumption | apply bl_alloc | apply bl_drewN | apply bl_drew | (refine bl_set ?_ (by first | (simp; done) | (simp; omega)) _) | (refine bl_call ?_ (by assumption)))⟩
theorem use_in (n d : Int) : -4611686018427387904 ≤ uN n d ∧ uN n d ≤ 4611686018427387904 ∧ 1 ≤ uD n d ∧ uD n d ≤ 1000000000000000 := by
  have := okF_true (okF_use n d)
  exact ⟨this.2.2.1, this.2.2.2.1, this.1, this.2.1⟩
def CmpCut (w : World) (x1 x2 y1 y2 : Int) (wx : World) : Prop := two wx w.heap.size (.int .i64 x1) (.int .i64 x2) ∧ two wx (w.heap.size + 1) (.int .i64 y1) (.int .i64 y2) ∧ Below w.heap.size w wx
theorem cmp_any (a b c d : Int) (n0 : -9223372036854775808 ≤ a) (n1 : a ≤ 9223372036854775807) (d0 : -9223372036854775808 ≤ b) (d1 : b ≤ 9223372036854775807) (m0 : -9223372036854775808 ≤ c) (m1 : c ≤ 9223372036854775807) (f0 : -9223372036854775808 ≤ d) (f1 : d ≤ 9223372036854775807) (w : World) :
    Calls Tryd.prog 19 #[.agg #[.int .i64 a, .int .i64 b], .agg #[.int .i64 c, .int .i64 d]] w (Gives (.int .i64 (cmpF a b c d)) w) := by
  unfold cmpF
  have U := Lib.hid (orZero_any a b n0 n1 d0 d1)
  have V := Lib.hid (orZero_any c d m0 m1 f0 f1)
  obtain ⟨u1, u2, u3, u4⟩ := use_in a b
  obtain ⟨v1, v2, v3, v4⟩ := use_in c d
  obtain ⟨x1, ex1⟩ : ∃ x, uN a b = x := ⟨_, rfl⟩
  obtain ⟨x2, ex2⟩ : ∃ x, uD a b = x := ⟨_, rfl⟩
  obtain ⟨y1, ey1⟩ : ∃ x, uN c d = x := ⟨_, rfl⟩
  obtain ⟨y2, ey2⟩ : ∃ x, uD c d = x := ⟨_, rfl⟩
  rw [ex1] at U u1 u2 ⊢
  rw [ex2] at U u3 u4 ⊢
  rw [ey1] at V v1 v2 ⊢
  rw [ey2] at V v3 v4 ⊢
  obtain ⟨P, eP⟩ : ∃ x, x1 * y2 = x := ⟨_, rfl⟩
  obtain ⟨Q, eQ⟩ : ∃ x, y1 * x2 = x := ⟨_, rfl⟩
  have T1 := Lib.hid (times_any x1 y2 P (by omega) (by omega) (by omega) (by omega) eP)
  have T2 := Lib.hid (times_any y1 x2 Q (by omega) (by omega) (by omega) (by omega) eQ)
  have K := Lib.hid (wcmp_any P Q)
  rw [eP, eQ]
  clear ex1 ex2 ey1 ey2 eP eQ
  obtain ⟨z, ez⟩ : ∃ z, cmpZ P Q = z := ⟨_, rfl⟩
  rw [ez] at K ⊢
  clear ez
  obtain ⟨p0, ep0⟩ : ∃ z, P / 18446744073709551616 = z := ⟨_, rfl⟩
  obtain ⟨p1, ep1⟩ : ∃ z, P % 18446744073709551616 = z := ⟨_, rfl⟩
  obtain ⟨q0, eq0⟩ : ∃ z, Q / 18446744073709551616 = z := ⟨_, rfl⟩
  obtain ⟨q1, eq1⟩ : ∃ z, Q % 18446744073709551616 = z := ⟨_, rfl⟩
  rw [ep0, ep1] at T1 K
  rw [eq0, eq1] at T2 K
  clear ep0 ep1 eq0 eq1
  go_enter Tryd.func19, Tryd.ntmps19
  go_upto_region 1 with (fail)
  go_cut [] (CmpCut w x1 x2 y1 y2)
  case first =>
    go_region_with (first
      | (go_at_call_of 42 (Value.agg #[Value.int .i64 a, Value.int .i64 b]); refine (U.out _).mono ?_; rintro e w1 ⟨rfl, hb1⟩; have A1 : two w1 (w.heap.size) (.int .i64 a) (.int .i64 b) := two.call (by refine ⟨?_, ?_, ?_, ?_, ?_⟩ <;> first | (go_simp; done) | (simp; done) | (simp; omega)) hb1; have B1 : two w1 (w.heap.size + 1) (.int .i64 c) (.int .i64 d) := two.call (by refine ⟨?_, ?_, ?_, ?_, ?_⟩ <;> first | (go_simp; done) | (simp; done) | (simp; omega)) hb1; obtain ⟨a0, a1, a2, a3, a4⟩ := A1; have A1 : two _ _ _ _ := ⟨a0, a1, a2, a3, a4⟩; obtain ⟨b0, b1, b2, b3, b4⟩ := B1; have B1 : two _ _ _ _ := ⟨b0, b1, b2, b3, b4⟩)
      | (go_at_call_of 42 (Value.agg #[Value.int .i64 c, Value.int .i64 d]); refine (V.out _).mono ?_; rintro e w2 ⟨rfl, hb2⟩; have A2 := two.on hb2 A1; have B2 := two.on hb2 B1; obtain ⟨a0, a1, a2, a3, a4⟩ := A2; have A2 : two _ _ _ _ := ⟨a0, a1, a2, a3, a4⟩; obtain ⟨b0, b1, b2, b3, b4⟩ := B2; have B2 : two _ _ _ _ := ⟨b0, b1, b2, b3, b4⟩))
    all_goals
      go_wp2_with fail
      go_meet
      exact ⟨two.far (two.set2 A2) (by omega), two.set2 (two.far B2 (by omega)), by repeat (first | exact Below.refl _ _ | assumption | apply bl_alloc | apply bl_drewN | apply bl_drew | (refine bl_set ?_ (by first | (simp; done) | (simp; omega)) _) | (refine bl_call ?_ (by assumption)))⟩
  case rest =>
    obtain ⟨A3, B3, hB⟩ := hcut
    obtain ⟨a0, a1, a2, a3, a4⟩ := A3
    have A3 : two _ _ _ _ := ⟨a0, a1, a2, a3, a4⟩
    obtain ⟨b0, b1, b2, b3, b4⟩ := B3
    have B3 : two _ _ _ _ := ⟨b0, b1, b2, b3, b4⟩
    go_wp2_with fail
    go_region_held3 (fun w' => w'.cell? ⟨w.heap.size, 0, none⟩ = some (.int .i64 x1) ∧ w'.cell? ⟨w.heap.size, 1, none⟩ = some (.int .i64 x2) ∧ w'.cell? ⟨w.heap.size + 1, 0, none⟩ = some (.int .i64 y1) ∧ w'.cell? ⟨w.heap.size + 1, 1, none⟩ = some (.int .i64 y2)) (first | exact ⟨A6.1, A6.2.1, B6.1, B6.2.1⟩ | exact ⟨(two.alloc A6).1, (two.alloc A6).2.1, (two.alloc B6).1, (two.alloc B6).2.1⟩ | exact ⟨(two.far A6 (by omega)).1, (two.far A6 (by omega)).2.1, (two.far B6 (by omega)).1, (two.far B6 (by omega)).2.1⟩ | exact ⟨A5.1, A5.2.1, B5.1, B5.2.1⟩ | exact ⟨(two.alloc A5).1, (two.alloc A5).2.1, (two.alloc B5).1, (two.alloc B5).2.1⟩ | exact ⟨(two.far A5 (by omega)).1, (two.far A5 (by omega)).2.1, (two.far B5 (by omega)).1, (two.far B5 (by omega)).2.1⟩ | exact ⟨A4.1, A4.2.1, B4.1, B4.2.1⟩ | exact ⟨(two.alloc A4).1, (two.alloc A4).2.1, (two.alloc B4).1, (two.alloc B4).2.1⟩ | exact ⟨(two.far A4 (by omega)).1, (two.far A4 (by omega)).2.1, (two.far B4 (by omega)).1, (two.far B4 (by omega)).2.1⟩ | exact ⟨A3.1, A3.2.1, B3.1, B3.2.1⟩ | exact ⟨(two.alloc A3).1, (two.alloc A3).2.1, (two.alloc B3).1, (two.alloc B3).2.1⟩ | exact ⟨(two.far A3 (by omega)).1, (two.far A3 (by omega)).2.1, (two.far B3 (by omega)).1, (two.far B3 (by omega)).2.1⟩)
      (first
        | (go_at_call_of 23 (Value.int .i64 x1); refine (T1.out _).mono ?_; rintro e w4 ⟨rfl, hb4⟩; have A4 := two.on hb4 A3; have B4 := two.on hb4 B3)
        | (go_at_call_of 23 (Value.int .i64 y1); refine (T2.out _).mono ?_; rintro e w5 ⟨rfl, hb5⟩; have A5 := two.on hb5 A4; have B5 := two.on hb5 B4)
        | (go_at_call 43; refine (K.out _).mono ?_; rintro e w6 ⟨rfl, hb6⟩; have A6 := two.on hb6 A5; have B6 := two.on hb6 B5))
    go_wp2_with fail
    go_ret
    exact ⟨rfl, by repeat (first | exact Below.refl _ _ | assumption | apply bl_alloc | apply bl_drewN | apply bl_drew | (refine bl_set ?_ (by first | (simp; done) | (simp; omega)) _) | (refine bl_call ?_ (by assumption)))⟩
end Go.Proofs.YtnfddeoddjmpkabDoor
