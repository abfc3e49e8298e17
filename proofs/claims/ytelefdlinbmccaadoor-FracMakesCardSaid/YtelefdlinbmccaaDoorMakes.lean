/-
  The statement FracMakes, walked.
-/
import Derived.Test.YtelefdlinbmccaaDoorAwake
import Derived.Test.YtelefdlinbmccaaDoorRefFrac
namespace Go.Proofs.YtelefdlinbmccaaDoor
open Go.RowKit
set_option maxHeartbeats 8000000
theorem ofO_some {n d x y : Int} (h : ofO n d = some (x, y)) : okF x y = true ∧ x * d = n * y := by
  unfold ofO at h
  split at h
  · cases h
  · rename_i hd
    obtain ⟨h1, h2⟩ := keep_some h
    have h3 := (okF_true h1).1
    refine ⟨h1, ?_⟩
    have hy : y.natAbs ≠ 0 := by omega
    have e : mkRat x y.natAbs = mkRat (if d < 0 then -n else n) d.natAbs := h2
    have e2 := (Rat.mkRat_eq_iff hy (by omega)).1 e
    split at e2
    · have : (d.natAbs : Int) = -d := by omega
      have h4 : (y.natAbs : Int) = y := by omega
      rw [this, h4] at e2
      rw [Int.mul_neg, Int.neg_mul] at e2; omega
    · have : (d.natAbs : Int) = d := by omega
      have h4 : (y.natAbs : Int) = y := by omega
      rw [this, h4] at e2; exact e2
/-- The four tests that ask whether both numbers are small. -/
theorem five (a b : Int) : (decide (-2147483648 < a) = false) ∨ (decide (-2147483648 < a) = true ∧ decide (a < 2147483648) = false) ∨ (decide (-2147483648 < a) = true ∧ decide (a < 2147483648) = true ∧ decide (-2147483648 < b) = false) ∨
    (decide (-2147483648 < a) = true ∧ decide (a < 2147483648) = true ∧ decide (-2147483648 < b) = true ∧ decide (b < 2147483648) = false) ∨
    (decide (-2147483648 < a) = true ∧ decide (a < 2147483648) = true ∧ decide (-2147483648 < b) = true ∧ decide (b < 2147483648) = true) := by
  simp; omega
set_option maxRecDepth 100000 in
theorem fracMakes_walk (a b : Int) (n0 : -9223372036854775808 ≤ a) (n1 : a ≤ 9223372036854775807) (d0 : -9223372036854775808 ≤ b) (d1 : b ≤ 9223372036854775807) (w : World) (hE : Env w) : Calls Tryd.prog 3 #[.int .i64 a, .int .i64 b] w (Gives (.bool true) w) := by
  rcases ho : ofO a b with - | ⟨x, y⟩
  · have HO := Lib.hid ho
    clear ho
    go_enter Tryd.func3, Tryd.ntmps3
    go_wp2_with fail
    refine (of_any a b n0 n1 d0 d1 _).mono ?_
    rintro e w1 ⟨rfl, hb1⟩
    rw [HO.out]
    simp only [oN, oD, oB, Option.isSome]
    go_wp2_with fail
    refine (rof_any a b n0 n1 d0 d1 _).mono ?_
    rintro e w2 ⟨rfl, hb2⟩
    rw [HO.out]
    simp only [oN, oD, oB, Option.isSome]
    have t1 := two.on hb2 two.new
    obtain ⟨p0, p1, p2, p3, p4⟩ := t1
    go_upto_region 5 with fail
    rcases five a b with h | ⟨h, h2⟩ | ⟨h, h2, h3⟩ | ⟨h, h2, h3, h4⟩ | ⟨h, h2, h3, h4⟩
    all_goals
      go_wp2_with fail
      refine (awake_any _ (hE.below (by repeat (first | exact Below.refl _ _ | assumption | apply bl_alloc | apply bl_drewN | apply bl_drew | (refine bl_set ?_ (by first | (simp; done) | (simp; omega)) _) | (refine bl_call ?_ (by assumption)))))).mono ?_
      rintro e w3 ⟨rfl, hb3⟩
      go_wp2_with fail
      go_ret
      exact ⟨rfl, by repeat (first | exact Below.refl _ _ | assumption | apply bl_alloc | apply bl_drewN | apply bl_drew | (refine bl_set ?_ (by first | (simp; done) | (simp; omega)) _) | (refine bl_call ?_ (by assumption)))⟩
  · obtain ⟨hok, hxy⟩ := ofO_some ho
    have HO := Lib.hid ho
    have HK := Lib.hid hok
    obtain ⟨y0, y1, x0, x1, -⟩ := okF_true hok
    clear ho hok
    go_enter Tryd.func3, Tryd.ntmps3
    go_wp2_with fail
    refine (of_any a b n0 n1 d0 d1 _).mono ?_
    rintro e w1 ⟨rfl, hb1⟩
    rw [HO.out]
    simp only [oN, oD, oB, Option.isSome]
    go_wp2_with fail
    refine (rof_any a b n0 n1 d0 d1 _).mono ?_
    rintro e w2 ⟨rfl, hb2⟩
    rw [HO.out]
    simp only [oN, oD, oB, Option.isSome]
    have t1 := two.on hb2 two.new
    obtain ⟨p0, p1, p2, p3, p4⟩ := t1
    have t1 : two _ _ _ _ := ⟨p0, p1, p2, p3, p4⟩
    go_wp2_with fail
    refine (valid_any x y (by omega) (by omega) (by omega) (by omega) _).mono ?_
    rintro e w3 ⟨rfl, hb3⟩
    rw [HK.out]
    have t3 := two.on hb3 (two.alloc t1)
    obtain ⟨q0, q1, q2, q3, q4⟩ := t3
    go_upto_region 5 with fail
    rcases five a b with h | ⟨h, h2⟩ | ⟨h, h2, h3⟩ | ⟨h, h2, h3, h4⟩ | ⟨h, h2, h3, h4⟩
    all_goals
      go_wp2_with fail
      refine (awake_any _ (hE.below (by repeat (first | exact Below.refl _ _ | assumption | apply bl_alloc | apply bl_drewN | apply bl_drew | (refine bl_set ?_ (by first | (simp; done) | (simp; omega)) _) | (refine bl_call ?_ (by assumption)))))).mono ?_
      rintro e w4 ⟨rfl, hb4⟩
      go_wp2_with fail
      go_ret
      exact ⟨rfl, by repeat (first | exact Below.refl _ _ | assumption | apply bl_alloc | apply bl_drewN | apply bl_drew | (refine bl_set ?_ (by first | (simp; done) | (simp; omega)) _) | (refine bl_call ?_ (by assumption)))⟩
end Go.Proofs.YtelefdlinbmccaaDoor
