/-
  The contracts of Mul, Div and Mod of package num and of the reference: the exact results of clipped operands.
-/
import Derived.Test.YtcbjkdbclimbeaaDoorPlain
namespace Go.Proofs.YtcbjkdbclimbeaaDoor
open Go.RowKit
set_option maxHeartbeats 400000
theorem negative_yes (a b : Int) (h : a < 0 ∧ 0 ≤ b ∨ 0 ≤ a ∧ b < 0) (w : World) : Calls Tryd.prog 32 #[.int .i64 a, .int .i64 b] w fun e w' => e = .returned (.bool true) ∧ w = w' := by
  rcases h with ⟨h1, h2⟩ | ⟨h1, h2⟩
  · go_enter Tryd.func32, Tryd.ntmps32
    go_wp2
    go_ret
    exact ⟨ret_bool (by simp; try omega), rfl⟩
  · go_enter Tryd.func32, Tryd.ntmps32
    go_wp2
    go_ret
    exact ⟨ret_bool (by simp; try omega), rfl⟩
theorem negative_no (a b : Int) (h : a < 0 ∧ b < 0 ∨ 0 ≤ a ∧ 0 ≤ b) (w : World) : Calls Tryd.prog 32 #[.int .i64 a, .int .i64 b] w fun e w' => e = .returned (.bool false) ∧ w = w' := by
  rcases h with ⟨h1, h2⟩ | ⟨h1, h2⟩
  · go_enter Tryd.func32, Tryd.ntmps32
    go_wp2
    go_ret
    exact ⟨ret_bool (by simp; try omega), rfl⟩
  · go_enter Tryd.func32, Tryd.ntmps32
    go_wp2
    go_ret
    exact ⟨ret_bool (by simp; try omega), rfl⟩
theorem mul_any (a b : Int) (w : World) : Calls Tryd.prog 17 #[.int .i64 a, .int .i64 b] w fun e w' => e = .returned (.int .i64 (mulZ a b)) ∧ w = w' := by
  unfold mulZ
  have x0 := clipZ_lo a
  have x1 := clipZ_hi a
  have y0 := clipZ_lo b
  have y1 := clipZ_hi b
  obtain ⟨x, hx⟩ : ∃ x, clipZ a = x := ⟨_, rfl⟩
  obtain ⟨y, hy⟩ : ∃ y, clipZ b = y := ⟨_, rfl⟩
  rw [hx] at x0 x1 ⊢
  rw [hy] at y0 y1 ⊢
  have HX := Lib.hid hx
  have HY := Lib.hid hy
  clear hx hy
  have m0 := absZ_nonneg x
  have m1 := absZ_hi x x0 x1
  have k0 := absZ_nonneg y
  have k1 := absZ_hi y y0 y1
  by_cases hx : x = 0
  · subst hx
    have hz : absZ 0 = 0 := rfl
    rw [Int.zero_mul, show clipZ 0 = 0 from rfl]
    go_enter Tryd.func17, Tryd.ntmps17
    go_wp2_with (first | (go_at_call 11; refine (clip_any _ _).mono ?_; rintro e w' ⟨rfl, rfl⟩; (first | rw [HX.out] | rw [HY.out])) | (go_at_call 31; refine (magnitude_any _ (by omega) (by omega) _).mono ?_; rintro e w' ⟨rfl, rfl⟩))
    go_ret
    exact ⟨ret_int (by omega), rfl⟩
  · have hz : 1 ≤ absZ x := by have := absZ_zero x; omega
    have d1 : (absZ x == 0) = false := beq_eq_false_iff_ne.2 (by omega)
    rcases Int.lt_or_le (1000000000000 / absZ x) (absZ y) with hq | hq
    · have d2 : decide (absZ y ≤ 1000000000000 / absZ x) = false := by simp; omega
      rcases mul_out hx hq with ⟨hs, hp⟩ | ⟨hs, hp⟩
      · rw [clipZ_up _ hp]
        go_enter Tryd.func17, Tryd.ntmps17
        go_wp2_with (first | (go_at_call 11; refine (clip_any _ _).mono ?_; rintro e w' ⟨rfl, rfl⟩; (first | rw [HX.out] | rw [HY.out])) | (go_at_call 31; refine (magnitude_any _ (by omega) (by omega) _).mono ?_; rintro e w' ⟨rfl, rfl⟩) | (go_at_call 32; refine (negative_no _ _ hs _).mono ?_; rintro e w' ⟨rfl, rfl⟩))
        go_ret
        exact ⟨rfl, rfl⟩
      · rw [clipZ_dn _ hp]
        go_enter Tryd.func17, Tryd.ntmps17
        go_wp2_with (first | (go_at_call 11; refine (clip_any _ _).mono ?_; rintro e w' ⟨rfl, rfl⟩; (first | rw [HX.out] | rw [HY.out])) | (go_at_call 31; refine (magnitude_any _ (by omega) (by omega) _).mono ?_; rintro e w' ⟨rfl, rfl⟩) | (go_at_call 32; refine (negative_yes _ _ hs _).mono ?_; rintro e w' ⟨rfl, rfl⟩))
        go_ret
        exact ⟨rfl, rfl⟩
    · obtain ⟨p0, p1⟩ := mul_in hx hq
      have d2 : decide (absZ y ≤ 1000000000000 / absZ x) = true := by simp; omega
      rw [clipZ_id _ p0 p1]
      go_enter Tryd.func17, Tryd.ntmps17
      go_wp2_with (first | (go_at_call 11; refine (clip_any _ _).mono ?_; rintro e w' ⟨rfl, rfl⟩; (first | rw [HX.out] | rw [HY.out])) | (go_at_call 31; refine (magnitude_any _ (by omega) (by omega) _).mono ?_; rintro e w' ⟨rfl, rfl⟩))
      go_ret
      exact ⟨rfl, rfl⟩
theorem rmul_any (a b : Int) (w : World) : Calls Tryd.prog 19 #[.int .i64 a, .int .i64 b] w fun e w' => e = .returned (.int .i64 (mulZ a b)) ∧ w = w' := by
  unfold mulZ
  have x0 := clipZ_lo a
  have x1 := clipZ_hi a
  have y0 := clipZ_lo b
  have y1 := clipZ_hi b
  obtain ⟨x, hx⟩ : ∃ x, clipZ a = x := ⟨_, rfl⟩
  obtain ⟨y, hy⟩ : ∃ y, clipZ b = y := ⟨_, rfl⟩
  rw [hx] at x0 x1 ⊢
  rw [hy] at y0 y1 ⊢
  have HX := Lib.hid hx
  have HY := Lib.hid hy
  clear hx hy
  have m0 := absZ_nonneg x
  have m1 := absZ_hi x x0 x1
  have k0 := absZ_nonneg y
  have k1 := absZ_hi y y0 y1
  by_cases hx : x = 0
  · subst hx
    rw [Int.zero_mul, show clipZ 0 = 0 from rfl]
    go_enter Tryd.func19, Tryd.ntmps19
    go_wp2_with (first | (go_at_call 14; refine (rclip_any _ _).mono ?_; rintro e w' ⟨rfl, rfl⟩; (first | rw [HX.out] | rw [HY.out])) | (go_at_call 33; refine (rabs_any _ (by omega) (by omega) _).mono ?_; rintro e w' ⟨rfl, rfl⟩))
    go_ret
    exact ⟨rfl, rfl⟩
  · have e1 : (x == 0) = false := beq_eq_false_iff_ne.2 hx
    by_cases hy : y = 0
    · subst hy
      rw [Int.mul_zero, show clipZ 0 = 0 from rfl]
      go_enter Tryd.func19, Tryd.ntmps19
      go_wp2_with (first | (go_at_call 14; refine (rclip_any _ _).mono ?_; rintro e w' ⟨rfl, rfl⟩; (first | rw [HX.out] | rw [HY.out])) | (go_at_call 33; refine (rabs_any _ (by omega) (by omega) _).mono ?_; rintro e w' ⟨rfl, rfl⟩))
      go_ret
      exact ⟨rfl, rfl⟩
    · have e2 : (y == 0) = false := beq_eq_false_iff_ne.2 hy
      have hz : 1 ≤ absZ x := by have := absZ_zero x; omega
      rcases Int.lt_or_le (1000000000000 / absZ x) (absZ y) with hq | hq
      · have d2 : decide (absZ y ≤ 1000000000000 / absZ x) = false := by simp; omega
        rcases mul_out hx hq with ⟨hs, hp⟩ | ⟨hs, hp⟩
        · rw [clipZ_up _ hp]
          rcases hs with ⟨s1, s2⟩ | ⟨s1, s2⟩
          · have s_x : decide (x < 0) = true := by simp; omega
            have s_y : decide (y < 0) = true := by simp; omega
            go_enter Tryd.func19, Tryd.ntmps19
            go_wp2_with (first | (go_at_call 14; refine (rclip_any _ _).mono ?_; rintro e w' ⟨rfl, rfl⟩; (first | rw [HX.out] | rw [HY.out])) | (go_at_call 33; refine (rabs_any _ (by omega) (by omega) _).mono ?_; rintro e w' ⟨rfl, rfl⟩))
            go_ret
            exact ⟨rfl, rfl⟩
          · have s_x : decide (x < 0) = false := by simp; omega
            have s_y : decide (y < 0) = false := by simp; omega
            go_enter Tryd.func19, Tryd.ntmps19
            go_wp2_with (first | (go_at_call 14; refine (rclip_any _ _).mono ?_; rintro e w' ⟨rfl, rfl⟩; (first | rw [HX.out] | rw [HY.out])) | (go_at_call 33; refine (rabs_any _ (by omega) (by omega) _).mono ?_; rintro e w' ⟨rfl, rfl⟩))
            go_ret
            exact ⟨rfl, rfl⟩
        · rw [clipZ_dn _ hp]
          rcases hs with ⟨s1, s2⟩ | ⟨s1, s2⟩
          · have s_x : decide (x < 0) = true := by simp; omega
            have s_y : decide (y < 0) = false := by simp; omega
            go_enter Tryd.func19, Tryd.ntmps19
            go_wp2_with (first | (go_at_call 14; refine (rclip_any _ _).mono ?_; rintro e w' ⟨rfl, rfl⟩; (first | rw [HX.out] | rw [HY.out])) | (go_at_call 33; refine (rabs_any _ (by omega) (by omega) _).mono ?_; rintro e w' ⟨rfl, rfl⟩))
            go_ret
            exact ⟨rfl, rfl⟩
          · have s_x : decide (x < 0) = false := by simp; omega
            have s_y : decide (y < 0) = true := by simp; omega
            go_enter Tryd.func19, Tryd.ntmps19
            go_wp2_with (first | (go_at_call 14; refine (rclip_any _ _).mono ?_; rintro e w' ⟨rfl, rfl⟩; (first | rw [HX.out] | rw [HY.out])) | (go_at_call 33; refine (rabs_any _ (by omega) (by omega) _).mono ?_; rintro e w' ⟨rfl, rfl⟩))
            go_ret
            exact ⟨rfl, rfl⟩
      · obtain ⟨p0, p1⟩ := mul_in hx hq
        have d2 : decide (absZ y ≤ 1000000000000 / absZ x) = true := by simp; omega
        rw [clipZ_id _ p0 p1]
        go_enter Tryd.func19, Tryd.ntmps19
        go_wp2_with (first | (go_at_call 14; refine (rclip_any _ _).mono ?_; rintro e w' ⟨rfl, rfl⟩; (first | rw [HX.out] | rw [HY.out])) | (go_at_call 33; refine (rabs_any _ (by omega) (by omega) _).mono ?_; rintro e w' ⟨rfl, rfl⟩))
        go_ret
        exact ⟨rfl, rfl⟩
theorem div_any (a b : Int) (w : World) : Calls Tryd.prog 20 #[.int .i64 a, .int .i64 b] w fun e w' => e = .returned (.int .i64 (divZ a b)) ∧ w = w' := by
  unfold divZ
  have x0 := clipZ_lo a
  have x1 := clipZ_hi a
  have y0 := clipZ_lo b
  have y1 := clipZ_hi b
  obtain ⟨x, hx⟩ : ∃ x, clipZ a = x := ⟨_, rfl⟩
  obtain ⟨y, hy⟩ : ∃ y, clipZ b = y := ⟨_, rfl⟩
  rw [hx] at x0 x1 ⊢
  rw [hy] at y0 y1 ⊢
  have HX := Lib.hid hx
  have HY := Lib.hid hy
  clear hx hy
  have t0 := tdiv_lo y x0 x1
  have t1 := tdiv_hi y x0 x1
  by_cases hy : y = 0
  · subst hy
    rw [Int.fdiv_zero]
    go_enter Tryd.func20, Tryd.ntmps20
    go_wp2_with ((go_at_call 11; refine (clip_any _ _).mono ?_; rintro e w' ⟨rfl, rfl⟩; (first | rw [HX.out] | rw [HY.out])))
    go_ret
    exact ⟨rfl, rfl⟩
  · have e2 : (y == 0) = false := beq_eq_false_iff_ne.2 hy
    have hs : (x < 0 ∧ 0 ≤ y ∨ 0 ≤ x ∧ y < 0) ∨ (x < 0 ∧ y < 0 ∨ 0 ≤ x ∧ 0 ≤ y) := by omega
    by_cases hr : x.tmod y = 0
    · have f1 : (x.tmod y != 0) = false := by rw [hr]; rfl
      rw [fdiv_same (Or.inl hr)]
      have HR := Lib.hid hr
      clear hr
      rcases hs with hs | hs
      · go_enter Tryd.func20, Tryd.ntmps20
        go_wp2_with (first | (go_at_call 11; refine (clip_any _ _).mono ?_; rintro e w' ⟨rfl, rfl⟩; (first | rw [HX.out] | rw [HY.out])) | (go_at_call 32; refine (negative_yes _ _ hs _).mono ?_; rintro e w' ⟨rfl, rfl⟩))
        go_ret
        exact ⟨rfl, rfl⟩
      · go_enter Tryd.func20, Tryd.ntmps20
        go_wp2_with (first | (go_at_call 11; refine (clip_any _ _).mono ?_; rintro e w' ⟨rfl, rfl⟩; (first | rw [HX.out] | rw [HY.out])) | (go_at_call 32; refine (negative_no _ _ hs _).mono ?_; rintro e w' ⟨rfl, rfl⟩))
        go_ret
        exact ⟨rfl, rfl⟩
    · have f1 : (x.tmod y != 0) = true := by rw [bne_iff_ne]; exact hr
      rcases hs with hs | hs
      · rw [fdiv_low hy hs hr]
        go_enter Tryd.func20, Tryd.ntmps20
        go_wp2_with (first | (go_at_call 11; refine (clip_any _ _).mono ?_; rintro e w' ⟨rfl, rfl⟩; (first | rw [HX.out] | rw [HY.out])) | (go_at_call 32; refine (negative_yes _ _ hs _).mono ?_; rintro e w' ⟨rfl, rfl⟩))
        go_ret
        exact ⟨rfl, rfl⟩
      · rw [fdiv_same (Or.inr hs)]
        go_enter Tryd.func20, Tryd.ntmps20
        go_wp2_with (first | (go_at_call 11; refine (clip_any _ _).mono ?_; rintro e w' ⟨rfl, rfl⟩; (first | rw [HX.out] | rw [HY.out])) | (go_at_call 32; refine (negative_no _ _ hs _).mono ?_; rintro e w' ⟨rfl, rfl⟩))
        go_ret
        exact ⟨rfl, rfl⟩
theorem rdiv_any (a b : Int) (w : World) : Calls Tryd.prog 21 #[.int .i64 a, .int .i64 b] w fun e w' => e = .returned (.int .i64 (divZ a b)) ∧ w = w' := by
  unfold divZ
  have x0 := clipZ_lo a
  have x1 := clipZ_hi a
  have y0 := clipZ_lo b
  have y1 := clipZ_hi b
  obtain ⟨x, hx⟩ : ∃ x, clipZ a = x := ⟨_, rfl⟩
  obtain ⟨y, hy⟩ : ∃ y, clipZ b = y := ⟨_, rfl⟩
  rw [hx] at x0 x1 ⊢
  rw [hy] at y0 y1 ⊢
  have HX := Lib.hid hx
  have HY := Lib.hid hy
  clear hx hy
  have t0 := tdiv_lo y x0 x1
  have t1 := tdiv_hi y x0 x1
  by_cases hy : y = 0
  · subst hy
    rw [Int.fdiv_zero]
    go_enter Tryd.func21, Tryd.ntmps21
    go_wp2_with (go_at_call 14; refine (rclip_any _ _).mono ?_; rintro e w' ⟨rfl, rfl⟩; (first | rw [HX.out] | rw [HY.out]))
    go_ret
    exact ⟨rfl, rfl⟩
  · have e2 : (y == 0) = false := beq_eq_false_iff_ne.2 hy
    have hs : (x < 0 ∧ 0 ≤ y ∨ 0 ≤ x ∧ y < 0) ∨ (x < 0 ∧ y < 0 ∨ 0 ≤ x ∧ 0 ≤ y) := by omega
    by_cases hr : x.tmod y = 0
    · have f1 : (x.tmod y != 0) = false := by rw [hr]; rfl
      rw [fdiv_same (Or.inl hr)]
      clear hr hs
      go_enter Tryd.func21, Tryd.ntmps21
      go_wp2_with (go_at_call 14; refine (rclip_any _ _).mono ?_; rintro e w' ⟨rfl, rfl⟩; (first | rw [HX.out] | rw [HY.out]))
      go_ret
      exact ⟨rfl, rfl⟩
    · have f1 : (x.tmod y != 0) = true := by rw [bne_iff_ne]; exact hr
      rcases hs with hs | hs
      · rw [fdiv_low hy hs hr]
        rcases hs with ⟨s1, s2⟩ | ⟨s1, s2⟩
        · have s_x : decide (x < 0) = true := by simp; omega
          have s_y : decide (y < 0) = false := by simp; omega
          go_enter Tryd.func21, Tryd.ntmps21
          go_wp2_with (go_at_call 14; refine (rclip_any _ _).mono ?_; rintro e w' ⟨rfl, rfl⟩; (first | rw [HX.out] | rw [HY.out]))
          go_ret
          exact ⟨rfl, rfl⟩
        · have s_x : decide (x < 0) = false := by simp; omega
          have f2 : (x % y != 0) = true := by rw [bne_iff_ne, ← Int.tmod_eq_emod_of_nonneg s1]; exact hr
          have s_y : decide (y < 0) = true := by simp; omega
          go_enter Tryd.func21, Tryd.ntmps21
          go_wp2_with (go_at_call 14; refine (rclip_any _ _).mono ?_; rintro e w' ⟨rfl, rfl⟩; (first | rw [HX.out] | rw [HY.out]))
          go_ret
          exact ⟨rfl, rfl⟩
      · rw [fdiv_same (Or.inr hs)]
        rcases hs with ⟨s1, s2⟩ | ⟨s1, s2⟩
        · have s_x : decide (x < 0) = true := by simp; omega
          have s_y : decide (y < 0) = true := by simp; omega
          go_enter Tryd.func21, Tryd.ntmps21
          go_wp2_with (go_at_call 14; refine (rclip_any _ _).mono ?_; rintro e w' ⟨rfl, rfl⟩; (first | rw [HX.out] | rw [HY.out]))
          go_ret
          exact ⟨rfl, rfl⟩
        · have s_x : decide (x < 0) = false := by simp; omega
          have f2 : (x % y != 0) = true := by rw [bne_iff_ne, ← Int.tmod_eq_emod_of_nonneg s1]; exact hr
          have s_y : decide (y < 0) = false := by simp; omega
          go_enter Tryd.func21, Tryd.ntmps21
          go_wp2_with (go_at_call 14; refine (rclip_any _ _).mono ?_; rintro e w' ⟨rfl, rfl⟩; (first | rw [HX.out] | rw [HY.out]))
          go_ret
          exact ⟨rfl, rfl⟩
theorem rmod_any (a b : Int) (w : World) : Calls Tryd.prog 23 #[.int .i64 a, .int .i64 b] w fun e w' => e = .returned (.int .i64 (modZ a b)) ∧ w = w' := by
  have hd : divZ a b = (clipZ a).fdiv (clipZ b) := rfl
  have hm : clipZ a - clipZ b * divZ a b = modZ a b := mul_fdiv _ _
  have x0 := clipZ_lo a
  have x1 := clipZ_hi a
  have y0 := clipZ_lo b
  have y1 := clipZ_hi b
  have hb : -1000000000000 ≤ modZ a b ∧ modZ a b ≤ 1000000000000 := modZ_in a b
  rw [← hm] at hb ⊢
  have hp : -2000000000000 ≤ clipZ b * divZ a b ∧ clipZ b * divZ a b ≤ 2000000000000 := by omega
  clear hd hm
  go_enter Tryd.func23, Tryd.ntmps23
  go_wp2_with (first | (go_at_call 14; refine (rclip_any _ _).mono ?_; rintro e w' ⟨rfl, rfl⟩) | (go_at_call 21; refine (rdiv_any _ _ _).mono ?_; rintro e w' ⟨rfl, rfl⟩))
  go_ret
  exact ⟨rfl, rfl⟩
theorem divZ_clip (a b : Int) : divZ (clipZ a) (clipZ b) = divZ a b := by unfold divZ; rw [clipZ_clipZ, clipZ_clipZ]
theorem mod_any (a b : Int) (w : World) : Calls Tryd.prog 22 #[.int .i64 a, .int .i64 b] w fun e w' => e = .returned (.int .i64 (modZ a b)) ∧ w = w' := by
  have hd : divZ (clipZ a) (clipZ b) = divZ a b := divZ_clip a b
  have hm : clipZ a - clipZ b * divZ (clipZ a) (clipZ b) = modZ a b := by rw [hd]; exact mul_fdiv _ _
  have x0 := clipZ_lo a
  have x1 := clipZ_hi a
  have y0 := clipZ_lo b
  have y1 := clipZ_hi b
  have hb : -1000000000000 ≤ modZ a b ∧ modZ a b ≤ 1000000000000 := modZ_in a b
  rw [← hm] at hb ⊢
  have hp : -2000000000000 ≤ clipZ b * divZ (clipZ a) (clipZ b) ∧ clipZ b * divZ (clipZ a) (clipZ b) ≤ 2000000000000 := by omega
  clear hd hm
  go_enter Tryd.func22, Tryd.ntmps22
  go_wp2_with (first | (go_at_call 11; refine (clip_any _ _).mono ?_; rintro e w' ⟨rfl, rfl⟩) | (go_at_call 20; refine (div_any _ _ _).mono ?_; rintro e w' ⟨rfl, rfl⟩))
  go_ret
  exact ⟨rfl, rfl⟩
end Go.Proofs.YtcbjkdbclimbeaaDoor
