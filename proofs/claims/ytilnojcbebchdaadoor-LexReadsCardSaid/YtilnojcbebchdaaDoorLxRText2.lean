/-
  The contract of the reference's Text, walked.
-/
import Derived.Test.YtilnojcbebchdaaDoorLxRText
namespace Go.Proofs.YtilnojcbebchdaaDoor.Lx
open Go.RowKit
set_option maxHeartbeats 8000000
set_option linter.unusedVariables false
set_option linter.unusedSimpArgs false
theorem rnum_at {x : Tk} {W : ByteArray} (h : x.k = 2) (hW : wrt x = W) (hn : 0 ≤ x.n ∧ x.n ≤ 1000000000000) (w : World) : Calls Tryd.prog 22 #[.int .i64 x.n] w fun e w' => e = .returned (.string W) ∧ w' = w := by
  rw [← hW, wrt_num h]
  exact (rtext_any x.n (by omega) (by omega) w).mono fun e w' ⟨h1, h2⟩ => ⟨h1, h2.symm⟩
set_option maxRecDepth 100000 in
theorem rtext_in {b o n c m : Nat} {l : List Tk} {L : Int} {V : Value} (w : World) (hm : n = m + 1) (hn : n ≤ 9223372036854775807) (hb : b < w.heap.size) (hl : l.length = n) (eL : w.cell? ⟨b, o + m * 4 + 3, none⟩ = some (.int .i64 L)) (h2 : ¬ 20001 < L) (hL1 : 1 ≤ L)
    (hC : Hid (∀ i, (g : i < l.length) → cell4 w b (o + i * 4) l[i])) (hI : Hid (∀ k, (hk : k < l.length) → InL l k l[k]))
    (I1 : Calls Tryd.prog 18 #[.slice (some ⟨b, o, none⟩) n c] w (Gives (.int .i64 0) w)) (HSIX : Hid (∀ k, k ≤ l.length → 20000 < (tx l k).length → V = .tuple #[.string mt, .int .i64 6])) (HGOOD : Hid ((tx l n).length ≤ 20000 → V = .tuple #[.string (mkS (tx l n)), .int .i64 0])) :
    Calls Tryd.prog 17 #[.slice (some ⟨b, o, none⟩) n c] w (Gives V w) := by
  have c1 : (n : Int) - 1 = (m : Int) := by omega
  have c2 : (0 : Int) ≤ (m : Int) := by omega
  have c3 : (m : Int) < (n : Int) := by omega
  have c4 : (n : Int) ≤ 9223372036854775807 := by omega
  have q : decide ((20001 : Int) < L) = false := decide_eq_false (by omega)
  have HL := Lib.hid hl
  clear hm hl
  go_enter Tryd.func17, Tryd.ntmps17
  go_wp2_with fail
  refine I1.mono ?_
  rintro e w1 ⟨rfl, hb1⟩
  have eL1 := (hb1.cell (p := ⟨b, o + m * 4 + 3, none⟩) hb).trans eL
  clear I1 eL
  go_wp2_with fail
  go_loopw [5, 6, 7] (fun s ln i wr => ∃ k : Nat, k ≤ n ∧ i = .int .i64 (k : Nat) ∧ s = .string (mkS (tx l k)) ∧ ln = .int .i64 (lnB l k) ∧ Hid ((tx l k).length ≤ 20000) ∧ Below w.heap.size w wr) (fun s ln i wr => n - (intOf i).toNat)
  case atStart => exact ⟨0, Nat.zero_le _, rfl, rfl, rfl, Lib.hid (Nat.zero_le _), hb1⟩
  case round =>
    obtain ⟨k, hk, rfl, rfl, rfl, HLEN, hbr⟩ := hrel
    have d1 : (0 : Int) ≤ (k : Int) := by omega
    rcases Nat.lt_or_ge k n with h | h
    · have d2 : (k : Int) < (n : Int) := by omega
      have hkl : k < l.length := by rw [HL.out]; exact h
      have hx := hI.out k hkl
      obtain ⟨e1, e2, e3, e4⟩ := cell4.on hbr hb (hC.out k hkl)
      have HPV : Hid (∀ j, k = j + 1 → wr.cell? ⟨b, o + j * 4 + 3, none⟩ = some (.int .i64 (lnB l k))) := Lib.hid fun j hj => by
        subst hj
        rw [lnB_succ (by omega)]
        exact (cell4.on hbr hb (hC.out j (by omega))).2.2.2
      obtain ⟨x, ex⟩ : ∃ x, l[k] = x := ⟨_, rfl⟩
      rw [ex] at e1 e2 e3 e4 hx
      have HLN := Lib.hid hx.next
      have g1 := hx.low
      have g2 := hx.step
      have g3 := hx.high
      have HWS := Lib.hid hx.size
      have HNUM := Lib.hid hx.num
      obtain ⟨d, hd⟩ : ∃ d, (x.l - lnB l k).toNat = d := ⟨_, rfl⟩
      have HTXF := Lib.hid fun g hg => hx.text d g hd hg
      obtain ⟨ln, hln⟩ : ∃ ln, lnB l k = ln := ⟨_, rfl⟩
      rw [hln] at g1 g2 hd HTXF HPV ⊢
      have hdl : ln + (d : Int) = x.l := by omega
      have HDL := Lib.hid hdl
      have hd2 : d ≤ 20000 := by omega
      clear ex hln hd hx hkl
      go_wp2_with fail
      go_loop [5, 6] (fun s y => ∃ j : Nat, ∃ S : ByteArray, ∃ Y : Int, j ≤ d ∧ s = .string S ∧ y = .int .i64 Y ∧ Hid (mkS (tx l k ++ List.replicate j 10) = S ∧ ln + (j : Int) = Y)) (fun s y => (x.l - intOf y).toNat)
      case atStart => exact ⟨0, _, _, Nat.zero_le _, rfl, rfl, Lib.hid ⟨by rw [List.replicate_zero, List.append_nil], by omega⟩⟩
      case round =>
        obtain ⟨j, S, Y, hj, rfl, rfl, HSY⟩ := hrel
        have hSs : (S.size : Int) ≤ 40000 := by
          have := HLEN.out
          rw [← HSY.out.1, mk_size, List.length_append, List.length_replicate]
          omega
        rcases Nat.lt_or_ge j d with hjd | hjd
        · have y1 : Y < x.l := by have := HSY.out.2; have := HDL.out; omega
          have y2 : decide (Y < x.l) = true := decide_eq_true y1
          have y3 : 1 ≤ Y := by have := HSY.out.2; omega
          have f1 : (S.size : Int) + 1 ≤ 9223372036854775807 := by omega
          clear hdl HTXF HPV HWS HNUM
          go_wp2_with fail
          go_round
          case rel => exact ⟨j + 1, S ++ ⟨#[10]⟩, Y + 1, by omega, rfl, by go_num, Lib.hid ⟨by rw [rep_succ, ← List.append_assoc, ← mk_app, HSY.out.1]; rfl, by have := HSY.out.2; omega⟩⟩
          case measure => simp [intOf]; omega
        · have hY : Y = x.l := by have := HSY.out.2; have := HDL.out; omega
          subst hY
          have HSS : Hid (mkS (tx l k ++ List.replicate d 10) = S) := Lib.hid ((congrArg (fun q => mkS (tx l k ++ List.replicate q 10)) (Nat.le_antisymm hjd hj)).trans HSY.out.1)
          have y1 : ¬ x.l < x.l := by omega
          have y2 : decide (x.l < x.l) = false := decide_eq_false y1
          obtain ⟨W, hW⟩ : ∃ W, wrt x = W := ⟨_, rfl⟩
          have HWW := Lib.hid hW
          rw [hW] at HWS
          have hWs := HWS.out
          have f1 : (S.size : Int) + 1 ≤ 9223372036854775807 := by omega
          have f2 : (S.size : Int) + (W.size : Int) ≤ 9223372036854775807 := by omega
          have f3 : (S.size : Int) + 1 + (W.size : Int) ≤ 9223372036854775807 := by omega
          clear HSY hj hjd hdl hWs hW
          by_cases hk0 : k = 0
          · have z0 : ¬ (0 : Int) < (k : Int) := by omega
            have z1 : decide ((0 : Int) < (k : Int)) = false := decide_eq_false z0
            have z3 : ¬ 0 < k := by omega
            have z4 : decide (0 < k) = false := decide_eq_false z3
            have HG : Hid (gap (decide (k = 0)) ln x = false) := Lib.hid (by rw [decide_eq_true hk0]; rfl)
            clear HPV hk0
            by_cases hk2 : x.k = 2
            · have q2 : (x.k == 2) = true := by rw [beq_iff_eq]; exact hk2
              have IN := fun w5 => rnum_at hk2 HWW.out (HNUM.out hk2) w5
              clear hk2
              have HEQ2 : Hid (S ++ W = mkS (tx l (k + 1))) := Lib.hid (by have e := HTXF.out false HG.out; rw [if_neg (by decide), List.append_nil] at e; rw [← HSS.out]; exact step_no HWW.out e)
              have HSZ : Hid ((((tx l (k + 1)).length : Nat) : Int) = (S.size : Int) + (W.size : Int)) := Lib.hid (by rw [← mk_size, ← HEQ2.out, ByteArray.size_append]; omega)
              clear HTXF HNUM
              by_cases hz : 20000 < (tx l (k + 1)).length
              · have HR := Lib.hid (HSIX.out (k + 1) (by have := HL.out; omega) hz)
                have q : decide ((20000 : Int) < (S.size : Int) + (W.size : Int)) = true := decide_eq_true (by rw [← HSZ.out]; omega)
                have q9 : (20000 : Int) < (S.size : Int) + (W.size : Int) := of_decide_eq_true q
                clear HEQ2 HWS
                go_wp2_with fail
                refine (IN _).mono ?_
                rintro e w5 ⟨rfl, rfl⟩
                go_wp2_with fail
                go_quiet (fail)
                all_goals
                  go_wp2_with fail
                  go_ret2
                  exact gives_eq HR.out (by (repeat (first | (with_reducible exact Below.refl _ _) | (with_reducible assumption) | (with_reducible apply bl_alloc) | (with_reducible apply bl_drewN) | (with_reducible apply bl_drew) | (with_reducible refine bl_set ?_ (by first | (simp; done) | (simp; omega)) _) | (with_reducible refine bl_call ?_ (by assumption)))))
              · have HZ : Hid ((tx l (k + 1)).length ≤ 20000) := Lib.hid (by omega)
                have q : decide ((20000 : Int) < (S.size : Int) + (W.size : Int)) = false := decide_eq_false (by rw [← HSZ.out]; omega)
                have q9 : ¬ (20000 : Int) < (S.size : Int) + (W.size : Int) := of_decide_eq_false q
                go_wp2_with fail
                refine (IN _).mono ?_
                rintro e w5 ⟨rfl, rfl⟩
                go_wp2_with fail
                go_quiet (fail)
                all_goals
                  go_wp2_with fail
                  go_roundw
                  case rel => exact ⟨k + 1, by omega, by go_num, by rw [← HEQ2.out], by rw [HLN.out], HZ, by (repeat (first | (with_reducible exact Below.refl _ _) | (with_reducible assumption) | (with_reducible apply bl_alloc) | (with_reducible apply bl_drewN) | (with_reducible apply bl_drew) | (with_reducible refine bl_set ?_ (by first | (simp; done) | (simp; omega)) _) | (with_reducible refine bl_call ?_ (by assumption))))⟩
                  case measure => simp [intOf]; omega
            · have q2 : (x.k == 2) = false := beq_eq_false_iff_ne.2 hk2
              have hWt : W = x.t := by rw [← HWW.out]; exact wrt_text hk2
              rw [← hWt] at e2
              clear hk2 hWt
              have HEQ2 : Hid (S ++ W = mkS (tx l (k + 1))) := Lib.hid (by have e := HTXF.out false HG.out; rw [if_neg (by decide), List.append_nil] at e; rw [← HSS.out]; exact step_no HWW.out e)
              have HSZ : Hid ((((tx l (k + 1)).length : Nat) : Int) = (S.size : Int) + (W.size : Int)) := Lib.hid (by rw [← mk_size, ← HEQ2.out, ByteArray.size_append]; omega)
              clear HTXF HNUM
              by_cases hz : 20000 < (tx l (k + 1)).length
              · have HR := Lib.hid (HSIX.out (k + 1) (by have := HL.out; omega) hz)
                have q : decide ((20000 : Int) < (S.size : Int) + (W.size : Int)) = true := decide_eq_true (by rw [← HSZ.out]; omega)
                have q9 : (20000 : Int) < (S.size : Int) + (W.size : Int) := of_decide_eq_true q
                clear HEQ2 HWS
                go_wp2_with fail
                go_quiet (fail)
                all_goals
                  go_wp2_with fail
                  go_ret2
                  exact gives_eq HR.out (by (repeat (first | (with_reducible exact Below.refl _ _) | (with_reducible assumption) | (with_reducible apply bl_alloc) | (with_reducible apply bl_drewN) | (with_reducible apply bl_drew) | (with_reducible refine bl_set ?_ (by first | (simp; done) | (simp; omega)) _) | (with_reducible refine bl_call ?_ (by assumption)))))
              · have HZ : Hid ((tx l (k + 1)).length ≤ 20000) := Lib.hid (by omega)
                have q : decide ((20000 : Int) < (S.size : Int) + (W.size : Int)) = false := decide_eq_false (by rw [← HSZ.out]; omega)
                have q9 : ¬ (20000 : Int) < (S.size : Int) + (W.size : Int) := of_decide_eq_false q
                go_wp2_with fail
                go_quiet (fail)
                all_goals
                  go_wp2_with fail
                  go_roundw
                  case rel => exact ⟨k + 1, by omega, by go_num, by rw [← HEQ2.out], by rw [HLN.out], HZ, by (repeat (first | (with_reducible exact Below.refl _ _) | (with_reducible assumption) | (with_reducible apply bl_alloc) | (with_reducible apply bl_drewN) | (with_reducible apply bl_drew) | (with_reducible refine bl_set ?_ (by first | (simp; done) | (simp; omega)) _) | (with_reducible refine bl_call ?_ (by assumption))))⟩
                  case measure => simp [intOf]; omega
          · obtain ⟨j, hj⟩ : ∃ j, k = j + 1 := ⟨k - 1, by omega⟩
            have e0 := HPV.out j hj
            have z0 : (0 : Int) < (k : Int) := by omega
            have z1 : decide ((0 : Int) < (k : Int)) = true := decide_eq_true z0
            have z3 : 0 < k := by omega
            have z4 : decide (0 < k) = true := decide_eq_true z3
            have j1 : (k : Int) - 1 = (j : Int) := by omega
            have j2 : (0 : Int) ≤ (j : Int) := by omega
            have j3 : (j : Int) < (n : Int) := by omega
            have z2 : decide (k = 0) = false := decide_eq_false hk0
            rw [z2] at HTXF
            clear HPV hk0 hj z2
            by_cases hk4 : x.k = 4
            · have q2 : (x.k == 2) = false := by rw [beq_eq_false_iff_ne]; omega
              have q4 : (x.k == 4) = true := by rw [beq_iff_eq]; exact hk4
              have q5 : (x.k != 4) = false := by simp only [bne, q4]; rfl
              have hWt : W = x.t := by rw [← HWW.out]; exact wrt_text (by omega)
              rw [← hWt] at e2
              have HG : Hid (gap false ln x = false) := Lib.hid (gap_inv (by rw [hk4]; exact vis_line))
              clear hWt hk4
              have HEQ2 : Hid (S ++ W = mkS (tx l (k + 1))) := Lib.hid (by have e := HTXF.out false HG.out; rw [if_neg (by decide), List.append_nil] at e; rw [← HSS.out]; exact step_no HWW.out e)
              have HSZ : Hid ((((tx l (k + 1)).length : Nat) : Int) = (S.size : Int) + (W.size : Int)) := Lib.hid (by rw [← mk_size, ← HEQ2.out, ByteArray.size_append]; omega)
              clear HTXF HNUM
              by_cases hz : 20000 < (tx l (k + 1)).length
              · have HR := Lib.hid (HSIX.out (k + 1) (by have := HL.out; omega) hz)
                have q : decide ((20000 : Int) < (S.size : Int) + (W.size : Int)) = true := decide_eq_true (by rw [← HSZ.out]; omega)
                have q9 : (20000 : Int) < (S.size : Int) + (W.size : Int) := of_decide_eq_true q
                clear HEQ2 HWS
                go_wp2_with fail
                go_quiet (fail)
                all_goals
                  go_wp2_with fail
                  go_ret2
                  exact gives_eq HR.out (by (repeat (first | (with_reducible exact Below.refl _ _) | (with_reducible assumption) | (with_reducible apply bl_alloc) | (with_reducible apply bl_drewN) | (with_reducible apply bl_drew) | (with_reducible refine bl_set ?_ (by first | (simp; done) | (simp; omega)) _) | (with_reducible refine bl_call ?_ (by assumption)))))
              · have HZ : Hid ((tx l (k + 1)).length ≤ 20000) := Lib.hid (by omega)
                have q : decide ((20000 : Int) < (S.size : Int) + (W.size : Int)) = false := decide_eq_false (by rw [← HSZ.out]; omega)
                have q9 : ¬ (20000 : Int) < (S.size : Int) + (W.size : Int) := of_decide_eq_false q
                go_wp2_with fail
                go_quiet (fail)
                all_goals
                  go_wp2_with fail
                  go_roundw
                  case rel => exact ⟨k + 1, by omega, by go_num, by rw [← HEQ2.out], by rw [HLN.out], HZ, by (repeat (first | (with_reducible exact Below.refl _ _) | (with_reducible assumption) | (with_reducible apply bl_alloc) | (with_reducible apply bl_drewN) | (with_reducible apply bl_drew) | (with_reducible refine bl_set ?_ (by first | (simp; done) | (simp; omega)) _) | (with_reducible refine bl_call ?_ (by assumption))))⟩
                  case measure => simp [intOf]; omega
            have q4 : (x.k == 4) = false := beq_eq_false_iff_ne.2 hk4
            have q5 : (x.k != 4) = true := by simp only [bne, q4]; rfl
            by_cases hke : x.k = 0
            · have q2 : (x.k == 2) = false := by rw [beq_eq_false_iff_ne]; omega
              have q6 : (x.k == 0) = true := by rw [beq_iff_eq]; exact hke
              have q7 : (x.k != 0) = false := by simp only [bne, q6]; rfl
              have hWt : W = x.t := by rw [← HWW.out]; exact wrt_text (by omega)
              rw [← hWt] at e2
              have HG : Hid (gap false ln x = false) := Lib.hid (gap_inv (by rw [hke]; exact vis_end))
              clear hWt hke hk4
              have HEQ2 : Hid (S ++ W = mkS (tx l (k + 1))) := Lib.hid (by have e := HTXF.out false HG.out; rw [if_neg (by decide), List.append_nil] at e; rw [← HSS.out]; exact step_no HWW.out e)
              have HSZ : Hid ((((tx l (k + 1)).length : Nat) : Int) = (S.size : Int) + (W.size : Int)) := Lib.hid (by rw [← mk_size, ← HEQ2.out, ByteArray.size_append]; omega)
              clear HTXF HNUM
              by_cases hz : 20000 < (tx l (k + 1)).length
              · have HR := Lib.hid (HSIX.out (k + 1) (by have := HL.out; omega) hz)
                have q : decide ((20000 : Int) < (S.size : Int) + (W.size : Int)) = true := decide_eq_true (by rw [← HSZ.out]; omega)
                have q9 : (20000 : Int) < (S.size : Int) + (W.size : Int) := of_decide_eq_true q
                clear HEQ2 HWS
                go_wp2_with fail
                go_quiet (fail)
                all_goals
                  go_wp2_with fail
                  go_ret2
                  exact gives_eq HR.out (by (repeat (first | (with_reducible exact Below.refl _ _) | (with_reducible assumption) | (with_reducible apply bl_alloc) | (with_reducible apply bl_drewN) | (with_reducible apply bl_drew) | (with_reducible refine bl_set ?_ (by first | (simp; done) | (simp; omega)) _) | (with_reducible refine bl_call ?_ (by assumption)))))
              · have HZ : Hid ((tx l (k + 1)).length ≤ 20000) := Lib.hid (by omega)
                have q : decide ((20000 : Int) < (S.size : Int) + (W.size : Int)) = false := decide_eq_false (by rw [← HSZ.out]; omega)
                have q9 : ¬ (20000 : Int) < (S.size : Int) + (W.size : Int) := of_decide_eq_false q
                go_wp2_with fail
                go_quiet (fail)
                all_goals
                  go_wp2_with fail
                  go_roundw
                  case rel => exact ⟨k + 1, by omega, by go_num, by rw [← HEQ2.out], by rw [HLN.out], HZ, by (repeat (first | (with_reducible exact Below.refl _ _) | (with_reducible assumption) | (with_reducible apply bl_alloc) | (with_reducible apply bl_drewN) | (with_reducible apply bl_drew) | (with_reducible refine bl_set ?_ (by first | (simp; done) | (simp; omega)) _) | (with_reducible refine bl_call ?_ (by assumption))))⟩
                  case measure => simp [intOf]; omega
            have q6 : (x.k == 0) = false := beq_eq_false_iff_ne.2 hke
            have q7 : (x.k != 0) = true := by simp only [bne, q6]; rfl
            have HVI := Lib.hid (vis_yes hk4 hke)
            by_cases hy : x.l = ln
            · have q8 : (ln == x.l) = true := by rw [beq_iff_eq]; exact hy.symm
              have HG : Hid (gap false ln x = true) := Lib.hid ((gap_same hy).trans HVI.out)
              clear hy hk4 hke
              by_cases hk2 : x.k = 2
              · have q2 : (x.k == 2) = true := by rw [beq_iff_eq]; exact hk2
                have IN := fun w5 => rnum_at hk2 HWW.out (HNUM.out hk2) w5
                clear hk2
                have HEQ2 : Hid (S ++ ⟨#[32]⟩ ++ W = mkS (tx l (k + 1))) := Lib.hid (by have e := HTXF.out true HG.out; rw [if_pos rfl] at e; rw [← HSS.out]; exact step_yes HWW.out e)
                have HSZ : Hid ((((tx l (k + 1)).length : Nat) : Int) = (S.size : Int) + 1 + (W.size : Int)) := Lib.hid (by rw [← mk_size, ← HEQ2.out, ByteArray.size_append, ByteArray.size_append]; show ((S.size + 1 + W.size : Nat) : Int) = _; omega)
                clear HTXF HNUM
                by_cases hz : 20000 < (tx l (k + 1)).length
                · have HR := Lib.hid (HSIX.out (k + 1) (by have := HL.out; omega) hz)
                  have q : decide ((20000 : Int) < (S.size : Int) + 1 + (W.size : Int)) = true := decide_eq_true (by rw [← HSZ.out]; omega)
                  have q9 : (20000 : Int) < (S.size : Int) + 1 + (W.size : Int) := of_decide_eq_true q
                  clear HEQ2 HWS
                  go_wp2_with fail
                  refine (IN _).mono ?_
                  rintro e w5 ⟨rfl, rfl⟩
                  go_wp2_with fail
                  go_quiet (fail)
                  all_goals
                    go_wp2_with fail
                    go_ret2
                    exact gives_eq HR.out (by (repeat (first | (with_reducible exact Below.refl _ _) | (with_reducible assumption) | (with_reducible apply bl_alloc) | (with_reducible apply bl_drewN) | (with_reducible apply bl_drew) | (with_reducible refine bl_set ?_ (by first | (simp; done) | (simp; omega)) _) | (with_reducible refine bl_call ?_ (by assumption)))))
                · have HZ : Hid ((tx l (k + 1)).length ≤ 20000) := Lib.hid (by omega)
                  have q : decide ((20000 : Int) < (S.size : Int) + 1 + (W.size : Int)) = false := decide_eq_false (by rw [← HSZ.out]; omega)
                  have q9 : ¬ (20000 : Int) < (S.size : Int) + 1 + (W.size : Int) := of_decide_eq_false q
                  go_wp2_with fail
                  refine (IN _).mono ?_
                  rintro e w5 ⟨rfl, rfl⟩
                  go_wp2_with fail
                  go_quiet (fail)
                  all_goals
                    go_wp2_with fail
                    go_roundw
                    case rel => exact ⟨k + 1, by omega, by go_num, by rw [← HEQ2.out], by rw [HLN.out], HZ, by (repeat (first | (with_reducible exact Below.refl _ _) | (with_reducible assumption) | (with_reducible apply bl_alloc) | (with_reducible apply bl_drewN) | (with_reducible apply bl_drew) | (with_reducible refine bl_set ?_ (by first | (simp; done) | (simp; omega)) _) | (with_reducible refine bl_call ?_ (by assumption))))⟩
                    case measure => simp [intOf]; omega
              · have q2 : (x.k == 2) = false := beq_eq_false_iff_ne.2 hk2
                have hWt : W = x.t := by rw [← HWW.out]; exact wrt_text hk2
                rw [← hWt] at e2
                clear hk2 hWt
                have HEQ2 : Hid (S ++ ⟨#[32]⟩ ++ W = mkS (tx l (k + 1))) := Lib.hid (by have e := HTXF.out true HG.out; rw [if_pos rfl] at e; rw [← HSS.out]; exact step_yes HWW.out e)
                have HSZ : Hid ((((tx l (k + 1)).length : Nat) : Int) = (S.size : Int) + 1 + (W.size : Int)) := Lib.hid (by rw [← mk_size, ← HEQ2.out, ByteArray.size_append, ByteArray.size_append]; show ((S.size + 1 + W.size : Nat) : Int) = _; omega)
                clear HTXF HNUM
                by_cases hz : 20000 < (tx l (k + 1)).length
                · have HR := Lib.hid (HSIX.out (k + 1) (by have := HL.out; omega) hz)
                  have q : decide ((20000 : Int) < (S.size : Int) + 1 + (W.size : Int)) = true := decide_eq_true (by rw [← HSZ.out]; omega)
                  have q9 : (20000 : Int) < (S.size : Int) + 1 + (W.size : Int) := of_decide_eq_true q
                  clear HEQ2 HWS
                  go_wp2_with fail
                  go_quiet (fail)
                  all_goals
                    go_wp2_with fail
                    go_ret2
                    exact gives_eq HR.out (by (repeat (first | (with_reducible exact Below.refl _ _) | (with_reducible assumption) | (with_reducible apply bl_alloc) | (with_reducible apply bl_drewN) | (with_reducible apply bl_drew) | (with_reducible refine bl_set ?_ (by first | (simp; done) | (simp; omega)) _) | (with_reducible refine bl_call ?_ (by assumption)))))
                · have HZ : Hid ((tx l (k + 1)).length ≤ 20000) := Lib.hid (by omega)
                  have q : decide ((20000 : Int) < (S.size : Int) + 1 + (W.size : Int)) = false := decide_eq_false (by rw [← HSZ.out]; omega)
                  have q9 : ¬ (20000 : Int) < (S.size : Int) + 1 + (W.size : Int) := of_decide_eq_false q
                  go_wp2_with fail
                  go_quiet (fail)
                  all_goals
                    go_wp2_with fail
                    go_roundw
                    case rel => exact ⟨k + 1, by omega, by go_num, by rw [← HEQ2.out], by rw [HLN.out], HZ, by (repeat (first | (with_reducible exact Below.refl _ _) | (with_reducible assumption) | (with_reducible apply bl_alloc) | (with_reducible apply bl_drewN) | (with_reducible apply bl_drew) | (with_reducible refine bl_set ?_ (by first | (simp; done) | (simp; omega)) _) | (with_reducible refine bl_call ?_ (by assumption))))⟩
                    case measure => simp [intOf]; omega
            · have q8 : (ln == x.l) = false := by rw [beq_eq_false_iff_ne]; exact fun e => hy e.symm
              have HG : Hid (gap false ln x = false) := Lib.hid (gap_else hy)
              clear hy hk4 hke
              by_cases hk2 : x.k = 2
              · have q2 : (x.k == 2) = true := by rw [beq_iff_eq]; exact hk2
                have IN := fun w5 => rnum_at hk2 HWW.out (HNUM.out hk2) w5
                clear hk2
                have HEQ2 : Hid (S ++ W = mkS (tx l (k + 1))) := Lib.hid (by have e := HTXF.out false HG.out; rw [if_neg (by decide), List.append_nil] at e; rw [← HSS.out]; exact step_no HWW.out e)
                have HSZ : Hid ((((tx l (k + 1)).length : Nat) : Int) = (S.size : Int) + (W.size : Int)) := Lib.hid (by rw [← mk_size, ← HEQ2.out, ByteArray.size_append]; omega)
                clear HTXF HNUM
                by_cases hz : 20000 < (tx l (k + 1)).length
                · have HR := Lib.hid (HSIX.out (k + 1) (by have := HL.out; omega) hz)
                  have q : decide ((20000 : Int) < (S.size : Int) + (W.size : Int)) = true := decide_eq_true (by rw [← HSZ.out]; omega)
                  have q9 : (20000 : Int) < (S.size : Int) + (W.size : Int) := of_decide_eq_true q
                  clear HEQ2 HWS
                  go_wp2_with fail
                  refine (IN _).mono ?_
                  rintro e w5 ⟨rfl, rfl⟩
                  go_wp2_with fail
                  go_quiet (fail)
                  all_goals
                    go_wp2_with fail
                    go_ret2
                    exact gives_eq HR.out (by (repeat (first | (with_reducible exact Below.refl _ _) | (with_reducible assumption) | (with_reducible apply bl_alloc) | (with_reducible apply bl_drewN) | (with_reducible apply bl_drew) | (with_reducible refine bl_set ?_ (by first | (simp; done) | (simp; omega)) _) | (with_reducible refine bl_call ?_ (by assumption)))))
                · have HZ : Hid ((tx l (k + 1)).length ≤ 20000) := Lib.hid (by omega)
                  have q : decide ((20000 : Int) < (S.size : Int) + (W.size : Int)) = false := decide_eq_false (by rw [← HSZ.out]; omega)
                  have q9 : ¬ (20000 : Int) < (S.size : Int) + (W.size : Int) := of_decide_eq_false q
                  go_wp2_with fail
                  refine (IN _).mono ?_
                  rintro e w5 ⟨rfl, rfl⟩
                  go_wp2_with fail
                  go_quiet (fail)
                  all_goals
                    go_wp2_with fail
                    go_roundw
                    case rel => exact ⟨k + 1, by omega, by go_num, by rw [← HEQ2.out], by rw [HLN.out], HZ, by (repeat (first | (with_reducible exact Below.refl _ _) | (with_reducible assumption) | (with_reducible apply bl_alloc) | (with_reducible apply bl_drewN) | (with_reducible apply bl_drew) | (with_reducible refine bl_set ?_ (by first | (simp; done) | (simp; omega)) _) | (with_reducible refine bl_call ?_ (by assumption))))⟩
                    case measure => simp [intOf]; omega
              · have q2 : (x.k == 2) = false := beq_eq_false_iff_ne.2 hk2
                have hWt : W = x.t := by rw [← HWW.out]; exact wrt_text hk2
                rw [← hWt] at e2
                clear hk2 hWt
                have HEQ2 : Hid (S ++ W = mkS (tx l (k + 1))) := Lib.hid (by have e := HTXF.out false HG.out; rw [if_neg (by decide), List.append_nil] at e; rw [← HSS.out]; exact step_no HWW.out e)
                have HSZ : Hid ((((tx l (k + 1)).length : Nat) : Int) = (S.size : Int) + (W.size : Int)) := Lib.hid (by rw [← mk_size, ← HEQ2.out, ByteArray.size_append]; omega)
                clear HTXF HNUM
                by_cases hz : 20000 < (tx l (k + 1)).length
                · have HR := Lib.hid (HSIX.out (k + 1) (by have := HL.out; omega) hz)
                  have q : decide ((20000 : Int) < (S.size : Int) + (W.size : Int)) = true := decide_eq_true (by rw [← HSZ.out]; omega)
                  have q9 : (20000 : Int) < (S.size : Int) + (W.size : Int) := of_decide_eq_true q
                  clear HEQ2 HWS
                  go_wp2_with fail
                  go_quiet (fail)
                  all_goals
                    go_wp2_with fail
                    go_ret2
                    exact gives_eq HR.out (by (repeat (first | (with_reducible exact Below.refl _ _) | (with_reducible assumption) | (with_reducible apply bl_alloc) | (with_reducible apply bl_drewN) | (with_reducible apply bl_drew) | (with_reducible refine bl_set ?_ (by first | (simp; done) | (simp; omega)) _) | (with_reducible refine bl_call ?_ (by assumption)))))
                · have HZ : Hid ((tx l (k + 1)).length ≤ 20000) := Lib.hid (by omega)
                  have q : decide ((20000 : Int) < (S.size : Int) + (W.size : Int)) = false := decide_eq_false (by rw [← HSZ.out]; omega)
                  have q9 : ¬ (20000 : Int) < (S.size : Int) + (W.size : Int) := of_decide_eq_false q
                  go_wp2_with fail
                  go_quiet (fail)
                  all_goals
                    go_wp2_with fail
                    go_roundw
                    case rel => exact ⟨k + 1, by omega, by go_num, by rw [← HEQ2.out], by rw [HLN.out], HZ, by (repeat (first | (with_reducible exact Below.refl _ _) | (with_reducible assumption) | (with_reducible apply bl_alloc) | (with_reducible apply bl_drewN) | (with_reducible apply bl_drew) | (with_reducible refine bl_set ?_ (by first | (simp; done) | (simp; omega)) _) | (with_reducible refine bl_call ?_ (by assumption))))⟩
                    case measure => simp [intOf]; omega
    · obtain rfl : k = n := by omega
      have HV := Lib.hid (HGOOD.out HLEN.out)
      clear HGOOD HSIX hI hC
      go_wp2_with fail
      go_ret2
      exact gives_eq HV.out hbr
end Go.Proofs.YtilnojcbebchdaaDoor.Lx
