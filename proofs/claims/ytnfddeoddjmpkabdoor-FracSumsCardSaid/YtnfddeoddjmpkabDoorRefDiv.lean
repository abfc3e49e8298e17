/-
  The contract of the reference's Divide: the quotient and the rest, digit by digit.
-/
import Derived.Test.YtnfddeoddjmpkabDoorRefMul
namespace Go.Proofs.YtnfddeoddjmpkabDoor
open Go.RowKit
set_option maxHeartbeats 8000000
theorem two.far1 {w : World} {g b o : Nat} {x u v : Value} (h : two w b u v) (hne : b ≠ g) : two (w.setCell ⟨g, o, none⟩ x) b u v := by
  obtain ⟨h1, h2, h3, h4, h5⟩ := h
  refine ⟨?_, ?_, ?_, ?_, by simp [World.setCell]; exact h5⟩
  · rw [World.cell?_setCell_other _ _ _ _ (fun e => hne (by injection e with e; first | exact e | exact e.symm))]; exact h1
  · rw [World.cell?_setCell_other _ _ _ _ (fun e => hne (by injection e with e; first | exact e | exact e.symm))]; exact h2
  · go_simp
  · go_simp
theorem two.setB {w : World} {g : Nat} {x u v : Value} (h : two w g u v) : two (w.setCell ⟨g, 1, none⟩ x) g u x := by
  obtain ⟨h1, h2, h3, h4, h5⟩ := h
  refine ⟨?_, ?_, ?_, ?_, by simp [World.setCell]; exact h5⟩
  · go_simp
  · go_simp
  · go_simp
  · go_simp
/-- The six blocks of a call of Divide. -/
def DivW (w : World) (ah al bh bl qh ql rh rl : Nat) (wr : World) : Prop :=
  two wr w.heap.size (.int .u64 (ah : Nat)) (.int .u64 (al : Nat)) ∧ two wr (w.heap.size + 1) (.int .u64 (bh : Nat)) (.int .u64 (bl : Nat)) ∧ two wr (w.heap.size + 1 + 1) (.int .u64 0) (.int .u64 0) ∧ two wr (w.heap.size + 1 + 1 + 1) (.int .u64 0) (.int .u64 0) ∧
    two wr (w.heap.size + 1 + 1 + 1 + 1) (.int .u64 (qh : Nat)) (.int .u64 (ql : Nat)) ∧ two wr (w.heap.size + 1 + 1 + 1 + 1 + 1) (.int .u64 (rh : Nat)) (.int .u64 (rl : Nat)) ∧ Below w.heap.size w wr
section
variable {w wr w2 : World} {ah al bh bl qh ql rh rl zh zl : Nat}
theorem DivW.on (hb : Below wr.heap.size wr w2) (h : DivW w ah al bh bl qh ql rh rl wr) : DivW w ah al bh bl qh ql rh rl w2 := by
  obtain ⟨h1, h2, h3, h4, h5, h6, h7⟩ := h
  exact ⟨two.on hb h1, two.on hb h2, two.on hb h3, two.on hb h4, two.on hb h5, two.on hb h6, bl_call h7 hb⟩
theorem DivW.drew (h : DivW w ah al bh bl qh ql rh rl wr) : DivW w ah al bh bl qh ql rh rl wr.drew := by
  obtain ⟨h1, h2, h3, h4, h5, h6, h7⟩ := h
  exact ⟨h1, h2, h3, h4, h5, h6, h7.drew⟩
theorem DivW.setQ (h : DivW w ah al bh bl qh ql rh rl wr) : DivW w ah al bh bl zh zl rh rl ((wr.setCell ⟨w.heap.size + 1 + 1 + 1 + 1, 0, none⟩ (.int .u64 (zh : Nat))).setCell ⟨w.heap.size + 1 + 1 + 1 + 1, 1, none⟩ (.int .u64 (zl : Nat))) := by
  obtain ⟨h1, h2, h3, h4, h5, h6, h7⟩ := h
  exact ⟨two.far h1 (by omega), two.far h2 (by omega), two.far h3 (by omega), two.far h4 (by omega), two.set2 h5, two.far h6 (by omega), by repeat (first | exact Below.refl _ _ | assumption | apply bl_alloc | apply bl_drewN | apply bl_drew | (refine bl_set ?_ (by first | (simp; done) | (simp; omega)) _) | (refine bl_call ?_ (by assumption)))⟩
theorem DivW.setR (h : DivW w ah al bh bl qh ql rh rl wr) : DivW w ah al bh bl qh ql zh zl ((wr.setCell ⟨w.heap.size + 1 + 1 + 1 + 1 + 1, 0, none⟩ (.int .u64 (zh : Nat))).setCell ⟨w.heap.size + 1 + 1 + 1 + 1 + 1, 1, none⟩ (.int .u64 (zl : Nat))) := by
  obtain ⟨h1, h2, h3, h4, h5, h6, h7⟩ := h
  exact ⟨two.far h1 (by omega), two.far h2 (by omega), two.far h3 (by omega), two.far h4 (by omega), two.far h5 (by omega), two.set2 h6, by repeat (first | exact Below.refl _ _ | assumption | apply bl_alloc | apply bl_drewN | apply bl_drew | (refine bl_set ?_ (by first | (simp; done) | (simp; omega)) _) | (refine bl_call ?_ (by assumption)))⟩
theorem DivW.setL (h : DivW w ah al bh bl qh ql rh rl wr) (hz : ql + 1 = zl) : DivW w ah al bh bl qh zl rh rl (wr.setCell ⟨w.heap.size + 1 + 1 + 1 + 1, 1, none⟩ (.int .u64 ((ql : Int) + 1))) := by
  subst hz
  obtain ⟨h1, h2, h3, h4, h5, h6, h7⟩ := h
  exact ⟨two.far1 h1 (by omega), two.far1 h2 (by omega), two.far1 h3 (by omega), two.far1 h4 (by omega), two.setB h5, two.far1 h6 (by omega), by repeat (first | exact Below.refl _ _ | assumption | apply bl_alloc | apply bl_drewN | apply bl_drew | (refine bl_set ?_ (by first | (simp; done) | (simp; omega)) _) | (refine bl_call ?_ (by assumption)))⟩
end
def DivAt (w : World) (ah al a bh bl b : Nat) (i : Value) (wr : World) : Prop :=
  ∃ k qh ql rh rl : Nat, k ≤ 128 ∧ i = .int .i64 ((k : Int) - 1) ∧ WV qh ql (a / 2 ^ k / b) ∧ WV rh rl (a / 2 ^ k % b) ∧ DivW w ah al bh bl qh ql rh rl wr
theorem divide_any {ah al a bh bl b qh ql rh rl : Nat} (ha : WV ah al a) (hb : WV bh bl b) (a1 : a < 340282366920938463463374607431768211456) (b0 : 0 < b) (b1 : b < 170141183460469231731687303715884105728) (hq : WV qh ql (a / b)) (hr : WV rh rl (a % b)) (w : World) :
    Calls Tryd.prog 69 #[.agg #[.int .u64 (ah : Nat), .int .u64 (al : Nat)], .agg #[.int .u64 (bh : Nat), .int .u64 (bl : Nat)]] w (Gives (.tuple #[.agg #[.int .u64 (qh : Nat), .int .u64 (ql : Nat)], .agg #[.int .u64 (rh : Nat), .int .u64 (rl : Nat)]]) w) := by
  have HA := Lib.hid ha
  have HB := Lib.hid hb
  have HQ := Lib.hid hq
  have HR := Lib.hid hr
  have BB := Lib.hid (And.intro a1 (And.intro b0 b1))
  clear ha hb hq hr a1 b0 b1
  go_enter Tryd.func69, Tryd.ntmps69
  go_wp2_with fail
  go_loopw [8] (DivAt w ah al a bh bl b) (fun i _ => (intOf i + 1).toNat)
  case atStart =>
    have e : a / 2 ^ 128 = 0 := Nat.div_eq_of_lt BB.out.1
    refine ⟨128, 0, 0, 0, 0, by omega, rfl, ?_, ?_, ?_, ?_, ?_, ?_, ?_, ?_, by repeat (first | exact Below.refl _ _ | assumption | apply bl_alloc | apply bl_drewN | apply bl_drew | (refine bl_set ?_ (by first | (simp; done) | (simp; omega)) _) | (refine bl_call ?_ (by assumption)))⟩
    · rw [e, Nat.zero_div]; exact wv_zero
    · rw [e, Nat.zero_mod]; exact wv_zero
    all_goals
      refine ⟨?_, ?_, ?_, ?_, ?_⟩ <;> first | (go_simp; done) | (simp; done) | (simp; omega)
  case round =>
    obtain ⟨k, xh, xl, yh, yl, hk, rfl, hx, hy, W0⟩ := hrel
    cases k with
    | zero =>
      rw [show ((0 : Nat) : Int) - 1 = -1 from rfl]
      rw [Nat.pow_zero, Nat.div_one] at hx hy
      obtain ⟨rfl, rfl⟩ := wv_eq hx HQ.out
      obtain ⟨rfl, rfl⟩ := wv_eq hy HR.out
      clear hx hy hk
      obtain ⟨⟨a0, a1, a2, a3, a4⟩, ⟨b0, b1, b2, b3, b4⟩, ⟨c0, c1, c2, c3, c4⟩, ⟨d0, d1, d2, d3, d4⟩, ⟨q0, q1, q2, q3, q4⟩, ⟨r0, r1, r2, r3, r4⟩, hB⟩ := W0
      go_wp2_with fail
      go_region_held3 (fun w' => w'.cell? ⟨w.heap.size + 1 + 1 + 1 + 1, 0, none⟩ = some (.int .u64 (xh : Nat)) ∧ w'.cell? ⟨w.heap.size + 1 + 1 + 1 + 1, 1, none⟩ = some (.int .u64 (xl : Nat)) ∧ w'.cell? ⟨w.heap.size + 1 + 1 + 1 + 1 + 1, 0, none⟩ = some (.int .u64 (yh : Nat)) ∧ w'.cell? ⟨w.heap.size + 1 + 1 + 1 + 1 + 1, 1, none⟩ = some (.int .u64 (yl : Nat)))
        (first | (go_keep; done) | (refine ⟨?_, ?_, ?_, ?_⟩ <;> first | assumption | exact far2 (by assumption) (by omega) | exact far2 (far2 (by assumption) (by omega)) (by omega))) (fail)
      all_goals
        go_wp2_with fail
        exact bodyPost_ret (v := .tuple #[.agg #[.int .u64 (xh : Nat), .int .u64 (xl : Nat)], .agg #[.int .u64 (yh : Nat), .int .u64 (yl : Nat)]]) (by simp [results, Tryd.results69, go_sem, *]) rfl ⟨rfl, by repeat (first | exact Below.refl _ _ | assumption | apply bl_alloc | apply bl_drewN | apply bl_drew | (refine bl_set ?_ (by first | (simp; done) | (simp; omega)) _) | (refine bl_call ?_ (by assumption)))⟩
    | succ j =>
      rw [show ((j + 1 : Nat) : Int) - 1 = (j : Int) by omega]
      have hj : j < 128 := by omega
      obtain ⟨B1, B2, B3⟩ := BB.out
      obtain ⟨Q, eQ⟩ : ∃ Q, a / 2 ^ (j + 1) / b = Q := ⟨_, rfl⟩
      obtain ⟨R, eR⟩ : ∃ R, a / 2 ^ (j + 1) % b = R := ⟨_, rfl⟩
      rw [eQ] at hx
      rw [eR] at hy
      have R1 : R < b := by rw [← eR]; exact Nat.mod_lt _ B2
      obtain ⟨c, ec⟩ : ∃ c, a / 2 ^ j % 2 = c := ⟨_, rfl⟩
      have c2 : c < 2 := by omega
      have hs : a / 2 ^ j = 2 * (a / 2 ^ (j + 1)) + c := by rw [← ec]; exact shift_bit a j
      have hle : a / 2 ^ j ≤ a := Nat.div_le_self _ _
      have hQ : Q ≤ a / 2 ^ (j + 1) := by rw [← eQ]; exact Nat.div_le_self _ _
      obtain ⟨sh, sl, hs2⟩ := wv (Q + Q)
      obtain ⟨th, tl, ht⟩ := wv (R + R)
      obtain ⟨uh, ul, hu⟩ := wv (R + R + c)
      have P1 := Lib.hid (rplus_any hx hx hs2 (by omega))
      have P2 := Lib.hid (rplus_any hy hy ht (by omega))
      have P3 := Lib.hid (rplus_any ht (wv_low (n := c) (by omega)) hu (by omega))
      have Bt := Lib.hid (bit_any HA.out j c hj ec)
      have Ls := Lib.hid (less_any hu HB.out)
      obtain ⟨vh, vl, hv⟩ := wv (R + R + c - b)
      have F1 : Hid (R + R + c < b → WV sh sl (a / 2 ^ j / b) ∧ WV uh ul (a / 2 ^ j % b) ∧ ltB (R + R + c) b = true) := fun hlt => by
        have dl := div_low (A := a / 2 ^ (j + 1)) (c := c) B2 (by rw [eR]; omega)
        rw [← hs, eQ, eR, show 2 * Q = Q + Q by omega, show 2 * R + c = R + R + c by omega] at dl
        exact ⟨by rw [dl.1]; exact hs2, by rw [dl.2]; exact hu, by unfold ltB; simpa using hlt⟩
      have F2 : Hid (¬ R + R + c < b → WV sh (sl + 1) (a / 2 ^ j / b) ∧ WV vh vl (a / 2 ^ j % b) ∧ ltB (R + R + c) b = false) := fun hlt => by
        have dl := div_high (A := a / 2 ^ (j + 1)) (c := c) B2 c2 (by rw [eR]; omega)
        rw [← hs, eQ, eR, show 2 * Q = Q + Q by omega, show 2 * R + c = R + R + c by omega] at dl
        exact ⟨by rw [dl.1]; unfold WV at hs2 ⊢; exact ⟨by omega, by omega⟩, by rw [dl.2]; exact hv, by unfold ltB; simpa using hlt⟩
      have P4 : Hid (¬ R + R + c < b → ∀ w : World, Calls Tryd.prog 72 #[.agg #[.int .u64 (uh : Nat), .int .u64 (ul : Nat)], .agg #[.int .u64 (bh : Nat), .int .u64 (bl : Nat)]] w (Gives (.agg #[.int .u64 (vh : Nat), .int .u64 (vl : Nat)]) w)) := fun hlt w => rminus_any hu HB.out (by omega) hv (by omega) w
      clear hs hle hQ eQ eR ec hx hy hs2 ht hu hv R1 B1 B2 B3 hk c2
      have V0 := W0
      obtain ⟨⟨a0, a1, a2, a3, a4⟩, ⟨b0, b1, b2, b3, b4⟩, ⟨c0, c1, c2, c3, c4⟩, ⟨d0, d1, d2, d3, d4⟩, ⟨q0, q1, q2, q3, q4⟩, ⟨r0, r1, r2, r3, r4⟩, hB⟩ := V0
      go_wp2_with fail
      refine (P1.out _).mono ?_
      rintro e w1 ⟨rfl, hb1⟩
      have W1 := DivW.on hb1 W0
      clear a0 a1 a2 a3 a4 b0 b1 b2 b3 b4 c0 c1 c2 c3 c4 d0 d1 d2 d3 d4 q0 q1 q2 q3 q4 r0 r1 r2 r3 r4 hB
      have V1 := W1
      obtain ⟨⟨a0, a1, a2, a3, a4⟩, ⟨b0, b1, b2, b3, b4⟩, ⟨c0, c1, c2, c3, c4⟩, ⟨d0, d1, d2, d3, d4⟩, ⟨q0, q1, q2, q3, q4⟩, ⟨r0, r1, r2, r3, r4⟩, hB⟩ := V1
      go_upto_region 6 with (fail)
      go_cut [] (DivW w ah al bh bl sh sl uh ul)
      case first =>
        have V2 := DivW.setQ (zh := sh) (zl := sl) W1
        clear a0 a1 a2 a3 a4 b0 b1 b2 b3 b4 c0 c1 c2 c3 c4 d0 d1 d2 d3 d4 q0 q1 q2 q3 q4 r0 r1 r2 r3 r4 hB
        have X2 := V2
        obtain ⟨⟨a0, a1, a2, a3, a4⟩, ⟨b0, b1, b2, b3, b4⟩, ⟨c0, c1, c2, c3, c4⟩, ⟨d0, d1, d2, d3, d4⟩, ⟨q0, q1, q2, q3, q4⟩, ⟨r0, r1, r2, r3, r4⟩, hB⟩ := X2
        go_region_with (first | (go_at_call_of 70 (Value.agg #[Value.int .u64 (yh : Nat), Value.int .u64 (yl : Nat)]); refine (P2.out _).mono ?_; rintro e w2 ⟨rfl, hb2⟩; have V3 := DivW.on hb2 (DivW.drew V2); have X3 := V3; obtain ⟨⟨a0, a1, a2, a3, a4⟩, -, -, -, -, ⟨r0, r1, r2, r3, r4⟩, -⟩ := X3) | (go_at_call 82; refine (Bt.out _).mono ?_; rintro e w3 ⟨rfl, hb3⟩; have V4 := DivW.on hb3 V3) | (go_at_call_of 70 (Value.agg #[Value.int .u64 (th : Nat), Value.int .u64 (tl : Nat)]); refine (P3.out _).mono ?_; rintro e w4 ⟨rfl, hb4⟩; have V5 := DivW.on hb4 V4; have X5 := V5; obtain ⟨-, -, -, -, -, ⟨r0, r1, r2, r3, r4⟩, -⟩ := X5))
        all_goals
          go_wp2_with fail
          go_meet
          exact DivW.setR V5
      clear a0 a1 a2 a3 a4 b0 b1 b2 b3 b4 c0 c1 c2 c3 c4 d0 d1 d2 d3 d4 q0 q1 q2 q3 q4 r0 r1 r2 r3 r4 hB
      have V6 := hcut
      obtain ⟨⟨a0, a1, a2, a3, a4⟩, ⟨b0, b1, b2, b3, b4⟩, ⟨c0, c1, c2, c3, c4⟩, ⟨d0, d1, d2, d3, d4⟩, ⟨q0, q1, q2, q3, q4⟩, ⟨r0, r1, r2, r3, r4⟩, hB⟩ := V6
      go_wp2_with fail
      refine (Ls.out _).mono ?_
      rintro e w5 ⟨rfl, hb5⟩
      have W3 := DivW.on hb5 hcut
      clear a0 a1 a2 a3 a4 b0 b1 b2 b3 b4 c0 c1 c2 c3 c4 d0 d1 d2 d3 d4 q0 q1 q2 q3 q4 r0 r1 r2 r3 r4 hB
      by_cases hlt : R + R + c < b
      · have F := Lib.hid (F1.out hlt)
        clear hlt
        rw [F.out.2.2]
        go_wp2_with fail
        go_roundw
        case rel => exact ⟨j, sh, sl, uh, ul, by omega, rfl, F.out.1, F.out.2.1, W3⟩
        case measure => simp [intOf]; try omega
      · have F := Lib.hid (F2.out hlt)
        have P5 := Lib.hid (P4.out hlt)
        have sl1 : sl + 1 < 18446744073709551616 := F.out.1.1
        clear hlt
        rw [F.out.2.2]
        have W4 := W3
        obtain ⟨⟨a0, a1, a2, a3, a4⟩, ⟨b0, b1, b2, b3, b4⟩, ⟨c0, c1, c2, c3, c4⟩, ⟨d0, d1, d2, d3, d4⟩, ⟨q0, q1, q2, q3, q4⟩, ⟨r0, r1, r2, r3, r4⟩, hB⟩ := W4
        go_wp2_with fail
        refine (P5.out _).mono ?_
        rintro e w6 ⟨rfl, hb6⟩
        have W5 := DivW.on hb6 W3
        clear a0 a1 a2 a3 a4 b0 b1 b2 b3 b4 c0 c1 c2 c3 c4 d0 d1 d2 d3 d4 q0 q1 q2 q3 q4 r0 r1 r2 r3 r4 hB
        have W6 := W5
        obtain ⟨⟨a0, a1, a2, a3, a4⟩, ⟨b0, b1, b2, b3, b4⟩, ⟨c0, c1, c2, c3, c4⟩, ⟨d0, d1, d2, d3, d4⟩, ⟨q0, q1, q2, q3, q4⟩, ⟨r0, r1, r2, r3, r4⟩, hB⟩ := W6
        go_wp2_with fail
        go_roundw
        case rel => exact ⟨j, sh, sl + 1, vh, vl, by omega, rfl, F.out.1, F.out.2.1, DivW.setL (DivW.setR W5) rfl⟩
        case measure => simp [intOf]; try omega
end Go.Proofs.YtnfddeoddjmpkabDoor
