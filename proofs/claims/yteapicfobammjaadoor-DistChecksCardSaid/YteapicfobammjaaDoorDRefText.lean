/-
  The contract of the reference's Text.
-/
import Derived.Test.YteapicfobammjaaDoorDTextA
import Derived.Test.YteapicfobammjaaDoorDRefCheck2
namespace Go.Proofs.YteapicfobammjaaDoor.Di
open Go.RowKit
set_option maxHeartbeats 4000000
theorem rtext_no (op a b n : Int) (p : Option Addr) (lv c : Nat) (q : Option Addr) (lw f : Nat) (E : Int) (hE : (E != 0) = true) (w : World) (CH : Hid (∀ w2, Below w.heap.size w w2 → Calls Tryd.prog 25 #[.agg #[.int .i64 op, .int .i64 a, .int .i64 b, .int .i64 n, .slice p lv c, .slice q lw f]] w2 (Gives (.int .i64 E) w2))) : Calls Tryd.prog 29 #[.agg #[.int .i64 op, .int .i64 a, .int .i64 b, .int .i64 n, .slice p lv c, .slice q lw f]] w (Gives (.string ⟨#[]⟩) w) := by
  go_enter Tryd.func29, Tryd.ntmps29
  go_wp2_with fail
  refine (CH.out _ (by (repeat (first | (with_reducible exact Below.refl _ _) | (with_reducible assumption) | (with_reducible apply bl_alloc) | (with_reducible apply bl_drewN) | (with_reducible apply bl_drew) | (with_reducible refine bl_set ?_ (by first | (simp; done) | (simp; omega)) _) | (with_reducible refine bl_call ?_ (by assumption)))))).mono ?_
  rintro e w1 ⟨rfl, hb1⟩
  have D1 := six.on hb1 six.new
  obtain ⟨d0, d1, d2, d3, d4, d5, d6⟩ := D1
  have D1 : six _ _ _ _ _ _ _ _ := ⟨d0, d1, d2, d3, d4, d5, d6⟩
  go_wp2_with fail
  go_ret
  exact ⟨rfl, by (repeat (first | (with_reducible exact Below.refl _ _) | (with_reducible assumption) | (with_reducible apply bl_alloc) | (with_reducible apply bl_drewN) | (with_reducible apply bl_drew) | (with_reducible refine bl_set ?_ (by first | (simp; done) | (simp; omega)) _) | (with_reducible refine bl_call ?_ (by assumption))))⟩
theorem rtext1 (a b n : Int) (p : Option Addr) (lv c : Nat) (q : Option Addr) (lw f : Nat) (Y : ByteArray) (hy : Y.size ≤ 20) (w : World) (CH : Hid (∀ w2, Below w.heap.size w w2 → Calls Tryd.prog 25 #[.agg #[.int .i64 1, .int .i64 a, .int .i64 b, .int .i64 n, .slice p lv c, .slice q lw f]] w2 (Gives (.int .i64 0) w2))) (TA : (Hid (∀ w2, Calls Tryd.prog 71 #[.int .i64 a] w2 fun e w' => e = .returned (.string Y) ∧ w2 = w'))) : Calls Tryd.prog 29 #[.agg #[.int .i64 1, .int .i64 a, .int .i64 b, .int .i64 n, .slice p lv c, .slice q lw f]] w (Gives (.string (⟨#[99, 111, 110, 115, 116, 32]⟩ ++ Y)) w) := by
  have q1 : ¬ 9223372036854775807 < 6 + Y.size := by omega
  go_enter Tryd.func29, Tryd.ntmps29
  go_wp2_with fail
  refine (CH.out _ (by (repeat (first | (with_reducible exact Below.refl _ _) | (with_reducible assumption) | (with_reducible apply bl_alloc) | (with_reducible apply bl_drewN) | (with_reducible apply bl_drew) | (with_reducible refine bl_set ?_ (by first | (simp; done) | (simp; omega)) _) | (with_reducible refine bl_call ?_ (by assumption)))))).mono ?_
  rintro e w1 ⟨rfl, hb1⟩
  have D1 := six.on hb1 six.new
  obtain ⟨d0, d1, d2, d3, d4, d5, d6⟩ := D1
  have D1 : six _ _ _ _ _ _ _ _ := ⟨d0, d1, d2, d3, d4, d5, d6⟩
  go_wp2_with fail
  refine (TA.out _).mono ?_
  rintro e w2 ⟨rfl, rfl⟩
  go_wp2_with fail
  go_ret
  exact ⟨rfl, by (repeat (first | (with_reducible exact Below.refl _ _) | (with_reducible assumption) | (with_reducible apply bl_alloc) | (with_reducible apply bl_drewN) | (with_reducible apply bl_drew) | (with_reducible refine bl_set ?_ (by first | (simp; done) | (simp; omega)) _) | (with_reducible refine bl_call ?_ (by assumption))))⟩
theorem rtext2 (a b n : Int) (p : Option Addr) (lv c : Nat) (q : Option Addr) (lw f : Nat) (Y Z : ByteArray) (hy : Y.size ≤ 20) (hz : Z.size ≤ 20) (w : World) (CH : Hid (∀ w2, Below w.heap.size w w2 → Calls Tryd.prog 25 #[.agg #[.int .i64 2, .int .i64 a, .int .i64 b, .int .i64 n, .slice p lv c, .slice q lw f]] w2 (Gives (.int .i64 0) w2))) (TA : (Hid (∀ w2, Calls Tryd.prog 71 #[.int .i64 a] w2 fun e w' => e = .returned (.string Y) ∧ w2 = w'))) (TB : (Hid (∀ w2, Calls Tryd.prog 71 #[.int .i64 b] w2 fun e w' => e = .returned (.string Z) ∧ w2 = w'))) : Calls Tryd.prog 29 #[.agg #[.int .i64 2, .int .i64 a, .int .i64 b, .int .i64 n, .slice p lv c, .slice q lw f]] w (Gives (.string (⟨#[117, 110, 105, 102, 111, 114, 109, 32]⟩ ++ Y ++ ⟨#[32]⟩ ++ Z)) w) := by
  have q1 : ¬ 9223372036854775807 < 8 + Y.size := by omega
  have q2 : ¬ 9223372036854775807 < 8 + Y.size + 1 := by omega
  have q3 : ¬ 9223372036854775807 < 8 + Y.size + 1 + Z.size := by omega
  go_enter Tryd.func29, Tryd.ntmps29
  go_wp2_with fail
  refine (CH.out _ (by (repeat (first | (with_reducible exact Below.refl _ _) | (with_reducible assumption) | (with_reducible apply bl_alloc) | (with_reducible apply bl_drewN) | (with_reducible apply bl_drew) | (with_reducible refine bl_set ?_ (by first | (simp; done) | (simp; omega)) _) | (with_reducible refine bl_call ?_ (by assumption)))))).mono ?_
  rintro e w1 ⟨rfl, hb1⟩
  have D1 := six.on hb1 six.new
  obtain ⟨d0, d1, d2, d3, d4, d5, d6⟩ := D1
  have D1 : six _ _ _ _ _ _ _ _ := ⟨d0, d1, d2, d3, d4, d5, d6⟩
  go_wp2_with fail
  go_quiet (first | (go_at_call_of 71 (Value.int .i64 a); exact quiet_left (TA.out _)) | (go_at_call_of 71 (Value.int .i64 b); exact quiet_left (TB.out _)))
  go_wp2_with fail
  go_ret
  exact ⟨rfl, by (repeat (first | (with_reducible exact Below.refl _ _) | (with_reducible assumption) | (with_reducible apply bl_alloc) | (with_reducible apply bl_drewN) | (with_reducible apply bl_drew) | (with_reducible refine bl_set ?_ (by first | (simp; done) | (simp; omega)) _) | (with_reducible refine bl_call ?_ (by assumption))))⟩
theorem rtext5 (a b n : Int) (p : Option Addr) (lv c : Nat) (q : Option Addr) (lw f : Nat) (Y Z : ByteArray) (hy : Y.size ≤ 20) (hz : Z.size ≤ 20) (w : World) (CH : Hid (∀ w2, Below w.heap.size w w2 → Calls Tryd.prog 25 #[.agg #[.int .i64 5, .int .i64 a, .int .i64 b, .int .i64 n, .slice p lv c, .slice q lw f]] w2 (Gives (.int .i64 0) w2))) (TA : (Hid (∀ w2, Calls Tryd.prog 71 #[.int .i64 a] w2 fun e w' => e = .returned (.string Y) ∧ w2 = w'))) (TB : (Hid (∀ w2, Calls Tryd.prog 71 #[.int .i64 b] w2 fun e w' => e = .returned (.string Z) ∧ w2 = w'))) : Calls Tryd.prog 29 #[.agg #[.int .i64 5, .int .i64 a, .int .i64 b, .int .i64 n, .slice p lv c, .slice q lw f]] w (Gives (.string (⟨#[103, 101, 111, 109, 32]⟩ ++ Y ++ ⟨#[32]⟩ ++ Z)) w) := by
  have q1 : ¬ 9223372036854775807 < 5 + Y.size := by omega
  have q2 : ¬ 9223372036854775807 < 5 + Y.size + 1 := by omega
  have q3 : ¬ 9223372036854775807 < 5 + Y.size + 1 + Z.size := by omega
  go_enter Tryd.func29, Tryd.ntmps29
  go_wp2_with fail
  refine (CH.out _ (by (repeat (first | (with_reducible exact Below.refl _ _) | (with_reducible assumption) | (with_reducible apply bl_alloc) | (with_reducible apply bl_drewN) | (with_reducible apply bl_drew) | (with_reducible refine bl_set ?_ (by first | (simp; done) | (simp; omega)) _) | (with_reducible refine bl_call ?_ (by assumption)))))).mono ?_
  rintro e w1 ⟨rfl, hb1⟩
  have D1 := six.on hb1 six.new
  obtain ⟨d0, d1, d2, d3, d4, d5, d6⟩ := D1
  have D1 : six _ _ _ _ _ _ _ _ := ⟨d0, d1, d2, d3, d4, d5, d6⟩
  go_wp2_with fail
  go_quiet (first | (go_at_call_of 71 (Value.int .i64 a); exact quiet_left (TA.out _)) | (go_at_call_of 71 (Value.int .i64 b); exact quiet_left (TB.out _)))
  go_wp2_with fail
  go_ret
  exact ⟨rfl, by (repeat (first | (with_reducible exact Below.refl _ _) | (with_reducible assumption) | (with_reducible apply bl_alloc) | (with_reducible apply bl_drewN) | (with_reducible apply bl_drew) | (with_reducible refine bl_set ?_ (by first | (simp; done) | (simp; omega)) _) | (with_reducible refine bl_call ?_ (by assumption))))⟩
theorem rtext4 (a b n : Int) (p : Option Addr) (lv c : Nat) (q : Option Addr) (lw f : Nat) (X Y Z : ByteArray) (hx : X.size ≤ 20) (hy : Y.size ≤ 20) (hz : Z.size ≤ 20) (w : World) (CH : Hid (∀ w2, Below w.heap.size w w2 → Calls Tryd.prog 25 #[.agg #[.int .i64 4, .int .i64 a, .int .i64 b, .int .i64 n, .slice p lv c, .slice q lw f]] w2 (Gives (.int .i64 0) w2))) (TN : (Hid (∀ w2, Calls Tryd.prog 71 #[.int .i64 n] w2 fun e w' => e = .returned (.string X) ∧ w2 = w'))) (TA : (Hid (∀ w2, Calls Tryd.prog 71 #[.int .i64 a] w2 fun e w' => e = .returned (.string Y) ∧ w2 = w'))) (TB : (Hid (∀ w2, Calls Tryd.prog 71 #[.int .i64 b] w2 fun e w' => e = .returned (.string Z) ∧ w2 = w'))) : Calls Tryd.prog 29 #[.agg #[.int .i64 4, .int .i64 a, .int .i64 b, .int .i64 n, .slice p lv c, .slice q lw f]] w (Gives (.string (⟨#[115, 117, 109, 32]⟩ ++ X ++ ⟨#[32]⟩ ++ Y ++ ⟨#[32]⟩ ++ Z)) w) := by
  have q1 : ¬ 9223372036854775807 < 4 + X.size := by omega
  have q2 : ¬ 9223372036854775807 < 4 + X.size + 1 := by omega
  have q3 : ¬ 9223372036854775807 < 4 + X.size + 1 + Y.size := by omega
  have q4 : ¬ 9223372036854775807 < 4 + X.size + 1 + Y.size + 1 := by omega
  have q5 : ¬ 9223372036854775807 < 4 + X.size + 1 + Y.size + 1 + Z.size := by omega
  go_enter Tryd.func29, Tryd.ntmps29
  go_wp2_with fail
  refine (CH.out _ (by (repeat (first | (with_reducible exact Below.refl _ _) | (with_reducible assumption) | (with_reducible apply bl_alloc) | (with_reducible apply bl_drewN) | (with_reducible apply bl_drew) | (with_reducible refine bl_set ?_ (by first | (simp; done) | (simp; omega)) _) | (with_reducible refine bl_call ?_ (by assumption)))))).mono ?_
  rintro e w1 ⟨rfl, hb1⟩
  have D1 := six.on hb1 six.new
  obtain ⟨d0, d1, d2, d3, d4, d5, d6⟩ := D1
  have D1 : six _ _ _ _ _ _ _ _ := ⟨d0, d1, d2, d3, d4, d5, d6⟩
  go_wp2_with fail
  go_quiet (first | (go_at_call_of 71 (Value.int .i64 n); exact quiet_left (TN.out _)) | (go_at_call_of 71 (Value.int .i64 a); exact quiet_left (TA.out _)) | (go_at_call_of 71 (Value.int .i64 b); exact quiet_left (TB.out _)))
  go_wp2_with fail
  go_ret
  exact ⟨rfl, by (repeat (first | (with_reducible exact Below.refl _ _) | (with_reducible assumption) | (with_reducible apply bl_alloc) | (with_reducible apply bl_drewN) | (with_reducible apply bl_drew) | (with_reducible refine bl_set ?_ (by first | (simp; done) | (simp; omega)) _) | (with_reducible refine bl_call ?_ (by assumption))))⟩
theorem tbt_step {V W : Nat → Int} {k : Nat} {X Y Z : ByteArray} (hX : X = tbt V W k) (hY : num (V k) = Y) (hZ : num (W k) = Z) : X ++ ⟨#[32]⟩ ++ Y ++ ⟨#[58]⟩ ++ Z = tbt V W (k + 1) := by
  subst hX hY hZ
  show _ = tbt V W k ++ (sp ++ num (V k) ++ col ++ num (W k))
  simp only [sp, col, ByteArray.append_assoc]
theorem rtext3 (a b n : Int) (b1 o1 c b2 o2 f m : Nat) (V W : Nat → Int) (w : World) (hn : m ≤ 20) (h1 : b1 < w.heap.size) (h2 : b2 < w.heap.size) (hc : Hid (∀ i, i < m → w.cell? ⟨b1, o1 + i, none⟩ = some (.int .i64 (V i)))) (hc2 : Hid (∀ i, i < m → w.cell? ⟨b2, o2 + i, none⟩ = some (.int .i64 (W i))))
    (hv : Hid (∀ i, i < m → 0 ≤ V i ∧ V i ≤ 1000000000)) (hw : Hid (∀ i, i < m → 1 ≤ W i ∧ W i ≤ 1000))
    (CH : Hid (∀ w2, Below w.heap.size w w2 → Calls Tryd.prog 25 #[.agg #[.int .i64 3, .int .i64 a, .int .i64 b, .int .i64 n, .slice (some ⟨b1, o1, none⟩) m c, .slice (some ⟨b2, o2, none⟩) m f]] w2 (Gives (.int .i64 0) w2))) :
    Calls Tryd.prog 29 #[.agg #[.int .i64 3, .int .i64 a, .int .i64 b, .int .i64 n, .slice (some ⟨b1, o1, none⟩) m c, .slice (some ⟨b2, o2, none⟩) m f]] w (Gives (.string (tbt V W m)) w) := by
  go_enter Tryd.func29, Tryd.ntmps29
  go_wp2_with fail
  refine (CH.out _ (by (repeat (first | (with_reducible exact Below.refl _ _) | (with_reducible assumption) | (with_reducible apply bl_alloc) | (with_reducible apply bl_drewN) | (with_reducible apply bl_drew) | (with_reducible refine bl_set ?_ (by first | (simp; done) | (simp; omega)) _) | (with_reducible refine bl_call ?_ (by assumption)))))).mono ?_
  rintro e w1 ⟨rfl, hb1⟩
  have D1 := six.on hb1 six.new
  obtain ⟨d0, d1, d2, d3, d4, d5, d6⟩ := D1
  have D1 : six _ _ _ _ _ _ _ _ := ⟨d0, d1, d2, d3, d4, d5, d6⟩
  go_wp2_with fail
  have Bw : Below w.heap.size w w1 := by (repeat (first | (with_reducible exact Below.refl _ _) | (with_reducible assumption) | (with_reducible apply bl_alloc) | (with_reducible apply bl_drewN) | (with_reducible apply bl_drew) | (with_reducible refine bl_set ?_ (by first | (simp; done) | (simp; omega)) _) | (with_reducible refine bl_call ?_ (by assumption))))
  clear d0 d1 d2 d3 d4 d5 d6 hb1 CH
  go_loopw [3, 4] (fun x y wr => ∃ (k : Nat) (X : ByteArray), k ≤ m ∧ x = .string X ∧ y = .int .i64 k ∧ X.size ≤ 10 + 42 * k ∧ Hid (X = tbt V W k) ∧ Below w1.heap.size w1 wr) (fun _ y _ => m - (intOf y).toNat)
  case atStart => exact ⟨0, _, Nat.zero_le _, rfl, rfl, by decide, Lib.hid rfl, Below.refl _ _⟩
  case round =>
    obtain ⟨k, X, hk, rfl, rfl, hX, HX, B⟩ := hrel
    have B0 := bl_call Bw B
    have D2 := six.on B D1
    obtain ⟨d0, d1, d2, d3, d4, d5, d6⟩ := D2
    rcases Nat.lt_or_ge k m with h | h
    · have e1 := (B0.cell (p := ⟨b1, o1 + k, none⟩) h1).trans (hc.out k h)
      have e2 := (B0.cell (p := ⟨b2, o2 + k, none⟩) h2).trans (hc2.out k h)
      obtain ⟨g0, g1⟩ := hv.out k h
      obtain ⟨j0, j1⟩ := hw.out k h
      have c1 : (0 : Int) ≤ (k : Int) := by omega
      have c2 : (k : Int) < (m : Int) := by omega
      have hy := num_size20 (V k) (by omega) (by omega)
      have hy2 := num_size20 (W k) (by omega) (by omega)
      have T := Lib.hid (r1_any (V k) (by omega) (by omega))
      have T2 := Lib.hid (r1_any (W k) (by omega) (by omega))
      obtain ⟨Y, eY⟩ : ∃ Y, num (V k) = Y := ⟨_, rfl⟩
      obtain ⟨Z, eZ⟩ : ∃ Z, num (W k) = Z := ⟨_, rfl⟩
      have HX2 := Lib.hid (tbt_step HX.out eY eZ)
      have hz : (X ++ ⟨#[32]⟩ ++ Y ++ ⟨#[58]⟩ ++ Z).size ≤ 10 + 42 * (k + 1) := by
        rw [eY] at hy; rw [eZ] at hy2
        simp only [ByteArray.size_append]
        show X.size + 1 + Y.size + 1 + Z.size ≤ _
        omega
      rw [eY] at hy T
      rw [eZ] at hy2 T2
      obtain ⟨x, ex⟩ : ∃ x, V k = x := ⟨_, rfl⟩
      obtain ⟨z, ez⟩ : ∃ z, W k = z := ⟨_, rfl⟩
      rw [ex] at e1 T
      rw [ez] at e2 T2
      clear eY eZ ex ez g0 g1 j0 j1
      have q0 : ¬ 9223372036854775807 < X.size + 1 := by omega
      have q1 : ¬ 9223372036854775807 < X.size + 1 + Y.size := by omega
      have q2 : ¬ 9223372036854775807 < X.size + 1 + Y.size + 1 := by omega
      have q3 : ¬ 9223372036854775807 < X.size + 1 + Y.size + 1 + Z.size := by omega
      go_wp2_with fail
      go_quiet (first | (go_at_call_of 71 (Value.int .i64 x); exact quiet_left (T.out _)) | (go_at_call_of 71 (Value.int .i64 z); exact quiet_left (T2.out _)))
      go_wp2_with fail
      go_roundw
      case rel => exact ⟨k + 1, _, by omega, rfl, by go_num, hz, HX2, by (repeat (first | (with_reducible exact Below.refl _ _) | (with_reducible assumption) | (with_reducible apply bl_alloc) | (with_reducible apply bl_drewN) | (with_reducible apply bl_drew) | (with_reducible refine bl_set ?_ (by first | (simp; done) | (simp; omega)) _) | (with_reducible refine bl_call ?_ (by assumption))))⟩
      case measure => simp [intOf]; omega
    · obtain rfl : m = k := by omega
      go_wp2_with fail
      go_ret
      exact ⟨ret_str' HX.out, by (repeat (first | (with_reducible exact Below.refl _ _) | (with_reducible assumption) | (with_reducible apply bl_alloc) | (with_reducible apply bl_drewN) | (with_reducible apply bl_drew) | (with_reducible refine bl_set ?_ (by first | (simp; done) | (simp; omega)) _) | (with_reducible refine bl_call ?_ (by assumption))))⟩
end Go.Proofs.YteapicfobammjaaDoor.Di
