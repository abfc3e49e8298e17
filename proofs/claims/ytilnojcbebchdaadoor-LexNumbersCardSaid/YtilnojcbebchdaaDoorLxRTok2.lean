/-
  The contract of the reference's Tokens, walked.
-/
import Derived.Test.YtilnojcbebchdaaDoorLxRTok
namespace Go.Proofs.YtilnojcbebchdaaDoor.Lx
open Go.RowKit
set_option maxHeartbeats 4000000
set_option linter.unusedVariables false
theorem rnumber_at {s : ByteArray} {o : Option Int} (h : numO (bs s) = o) (hs : s.size ≤ 9223372036854775807) (w : World) : Calls Tryd.prog 21 #[.string s] w fun e w' => e = .returned (numV o) ∧ w' = w := by rw [← h]; exact rnumber_any s w hs
theorem rword_at {s : ByteArray} {b : Bool} (h : isWd (bs s) = b) (hs : s.size ≤ 9223372036854775807) (w : World) : Calls Tryd.prog 26 #[.string s] w fun e w' => e = .returned (.bool b) ∧ w' = w := by rw [← h]; exact rword_any s w hs
theorem rdigits_at {s : ByteArray} {b : Bool} (h : isDg (bs s) = b) (hs : s.size ≤ 9223372036854775807) (w : World) : Calls Tryd.prog 27 #[.string s] w fun e w' => e = .returned (.bool b) ∧ w' = w := by rw [← h]; exact rdigits_any s w hs
theorem rlongest_at {s : ByteArray} {n : Nat} (h : tkN (bs s) = n) (hs : s.size ≤ 140737488355328) (w : World) : Calls Tryd.prog 25 #[.string s] w fun e w' => e = .returned (.int .i64 (n : Int)) ∧ w' = w := by rw [← h]; exact rlongest_any s w hs
set_option maxRecDepth 100000 in
theorem rtokens_any (s : ByteArray) (w : World) (hs : s.size ≤ 9223372036854775807) : Calls Tryd.prog 12 #[.string s] w (Tokd w (tokL (bs s)) (tokN (bs s)) (tokE (bs s))) := by
  by_cases h : 20000 < s.size
  · have HV := Lib.hid (tok_long (l := bs s) (by rw [bs_len]; exact h))
    have c1 : decide ((20000 : Int) < (s.size : Int)) = true := decide_eq_true (by omega)
    go_enter Tryd.func12, Tryd.ntmps12
    go_wp2_with fail
    go_ret3
    exact tokd HV.out rfl (World.ownsRow_nil _ _ _ _) (Below.refl _ _)
  · have c1 : decide ((20000 : Int) < (s.size : Int)) = false := decide_eq_false (by omega)
    have hs' : (s.size : Int) ≤ 20000 := by omega
    have HS0 : Hid (RAt s (lexL (bs s) [] 1) 0 1 []) := Lib.hid ⟨Nat.zero_le _, by rw [List.drop_zero], Nat.le_refl _, Nat.le_refl _⟩
    obtain ⟨R, hR⟩ : ∃ R, lexL (bs s) [] 1 = R := ⟨_, rfl⟩
    rw [hR] at HS0
    have HRR := Lib.hid hR
    have HSS := Lib.hid h
    clear hR
    go_enter Tryd.func12, Tryd.ntmps12
    go_wp2_with fail
    go_loopw [5, 6, 7, 8] (fun o ln op i wr => ∃ q n : Nat, ∃ a : List Tk, q ≤ s.size ∧ ln = .int .i64 (n : Nat) ∧ op = .bool (opn a) ∧ i = .int .i64 (q : Nat) ∧ Hid (RAt s R q n a) ∧ Hid (RW w o a wr)) (fun o ln op i wr => s.size - (intOf i).toNat)
    case atStart => exact ⟨0, 1, [], Nat.zero_le _, rfl, rfl, rfl, HS0, Lib.hid ⟨World.ownsRow_nil _ _ _ _, Below.refl _ _⟩⟩
    case round =>
      obtain ⟨q, n, a, hq, rfl, rfl, rfl, HS, HW⟩ := hrel
      have hal : a.length ≤ 20000 ∧ n ≤ 20001 := by have := HS.out.len; have := HS.out.line; omega
      have n0 : (0 : Int) ≤ (n : Int) := by omega
      have n1 : (n : Int) ≤ 20001 := by omega
      have q0 : (0 : Int) ≤ (q : Int) := by omega
      by_cases hp : q < s.size
      · have q1 : (q : Int) < (s.size : Int) := by omega
        have q2 : (q : Int) ≤ (s.size : Int) := by omega
        by_cases h32 : (((s[q]).toNat : Nat) : Int) = 32
        · have b32 : (((s[q]).toNat : Int) == 32) = true := by rw [beq_iff_eq]; exact h32
          have HS2 := Lib.hid (ra_blank HS.out hp (.inl ((byte_is (n := 32) (by decide)).2 h32)))
          clear h32 hal
          go_wp2_with fail
          go_roundw
          case rel => exact ⟨q + 1, n, a, by omega, rfl, rfl, by go_num, HS2, HW⟩
          case measure => simp [intOf]; omega
        have b32 : (((s[q]).toNat : Int) == 32) = false := by rw [beq_eq_false_iff_ne]; exact h32
        by_cases h9 : (((s[q]).toNat : Nat) : Int) = 9
        · have b9 : (((s[q]).toNat : Int) == 9) = true := by rw [beq_iff_eq]; exact h9
          have HS2 := Lib.hid (ra_blank HS.out hp (.inr ((byte_is (n := 9) (by decide)).2 h9)))
          clear h32 h9 hal
          go_wp2_with fail
          go_roundw
          case rel => exact ⟨q + 1, n, a, by omega, rfl, rfl, by go_num, HS2, HW⟩
          case measure => simp [intOf]; omega
        have b9 : (((s[q]).toNat : Int) == 9) = false := by rw [beq_eq_false_iff_ne]; exact h9
        by_cases h35 : (((s[q]).toNat : Nat) : Int) = 35
        · have b35 : (((s[q]).toNat : Int) == 35) = true := by rw [beq_iff_eq]; exact h35
          have HS2 := Lib.hid (ra_note HS.out hp ((byte_is (n := 35) (by decide)).2 h35))
          obtain ⟨K, hK⟩ : ∃ K, spn inlC ((bs s).drop q) = K := ⟨_, rfl⟩
          have HI : Hid (∀ j, j < K → ∃ g : q + j < s.size, ¬ (((s[q + j]'g).toNat : Nat) : Int) = 10) := Lib.hid (by subst hK; exact fun j hj => note_in hj)
          have HE : Hid (∀ g : q + K < s.size, (((s[q + K]'g).toNat : Nat) : Int) = 10) := Lib.hid (by subst hK; exact fun g => note_end g)
          rw [hK] at HS2
          have hKs : q + K ≤ s.size := HS2.out.hq
          have HK1 : Hid (1 ≤ K) := Lib.hid (by
            rw [← hK]
            have hd := drop_at hp
            rw [(byte_is (n := 35) (by decide)).2 h35] at hd
            rw [hd]
            exact spn_one inl_35)
          clear h32 h9 h35 hal hK
          go_wp2_with fail
          go_loop [8] (fun i => ∃ j M : Nat, Hid (M = q + j) ∧ j ≤ K ∧ i = .int .i64 (M : Nat)) (fun i => s.size + 1 - (intOf i).toNat)
          case atStart => exact ⟨0, q, Lib.hid rfl, Nat.zero_le _, rfl⟩
          case round =>
            obtain ⟨j, M, HM, hj, rfl⟩ := hrel
            have m0 : (0 : Int) ≤ (M : Int) := by omega
            have m2 : (M : Int) ≤ 20000 := by have := HM.out; omega
            rcases Nat.lt_or_ge j K with g | g
            · obtain ⟨g1, g2⟩ : ∃ g : M < s.size, ¬ (((s[M]'g).toNat : Nat) : Int) = 10 := by
                have := HI.out j g
                rw [← HM.out] at this
                exact this
              have m1 : (M : Int) < (s.size : Int) := by omega
              have b10 : (((s[M]).toNat : Int) == 10) = false := by rw [beq_eq_false_iff_ne]; exact g2
              have b11 : (((s[M]).toNat : Int) != 10) = true := by simp only [bne, b10]; rfl
              clear g2
              go_wp2_with fail
              go_round
              case rel => exact ⟨j + 1, M + 1, Lib.hid (by rw [HM.out]; omega), by omega, by go_num⟩
              case measure => simp [intOf]; omega
            · have HMK : Hid (M = q + K) := Lib.hid (by rw [HM.out]; omega)
              have HF : Hid (RAt s R M n a) := Lib.hid (by rw [HMK.out]; exact HS2.out)
              have hMs : M ≤ s.size := by rw [HMK.out]; exact hKs
              have HQ : Hid (q < M) := Lib.hid (by rw [HMK.out]; have := HK1.out; omega)
              by_cases g1 : M < s.size
              · have g2 : (((s[M]).toNat : Nat) : Int) = 10 := by
                  have := HE.out
                  rw [← HMK.out] at this
                  exact this g1
                have m1 : (M : Int) < (s.size : Int) := by omega
                have b10 : (((s[M]).toNat : Int) == 10) = true := by rw [beq_iff_eq]; exact g2
                have b11 : (((s[M]).toNat : Int) != 10) = false := by simp only [bne, b10]; rfl
                clear g2
                go_wp2_with fail
                go_roundw
                case rel => exact ⟨M, n, a, hMs, rfl, rfl, rfl, HF, HW⟩
                case measure => have := HQ.out; simp [intOf]; omega
              · have m1 : ¬ (M : Int) < (s.size : Int) := by omega
                have m3 : decide ((M : Int) < (s.size : Int)) = false := decide_eq_false m1
                go_wp2_with fail
                go_roundw
                case rel => exact ⟨M, n, a, hMs, rfl, rfl, rfl, HF, HW⟩
                case measure => have := HQ.out; simp [intOf]; omega
        have b35 : (((s[q]).toNat : Int) == 35) = false := by rw [beq_eq_false_iff_ne]; exact h35
        by_cases h10 : (((s[q]).toNat : Nat) : Int) = 10
        · have b10 : (((s[q]).toNat : Int) == 10) = true := by rw [beq_iff_eq]; exact h10
          have HS2 := Lib.hid (ra_line HS.out hp ((byte_is (n := 10) (by decide)).2 h10))
          have HO : Hid (opn (endL a n) = false) := Lib.hid opn_end
          cases ho : opn a with
          | true =>
            rw [endL_yes ho] at HS2 HO
            obtain ⟨v2, w2, hrun, hw2⟩ := app1 HW.out ⟨4, mt, 0, (n : Int)⟩ (by omega)
            have HW2 := Lib.hid hw2
            clear h32 h9 h35 h10 hal ho hw2
            go_wp2_with (at_builtin; refine Lib.wpList_append_run _ rfl _ _ _ _ rfl _ _ rfl rfl _ _ hrun ?_)
            go_roundw
            case rel => exact ⟨q + 1, n + 1, _, by omega, by go_num, by rw [HO.out], by go_num, HS2, HW2⟩
            case measure => simp [intOf]; omega
          | false =>
            rw [endL_no ho] at HS2 HO
            clear h32 h9 h35 h10 hal ho
            go_wp2_with fail
            go_roundw
            case rel => exact ⟨q + 1, n + 1, a, by omega, by go_num, by rw [HO.out], by go_num, HS2, HW⟩
            case measure => simp [intOf]; omega
        have b10 : (((s[q]).toNat : Int) == 10) = false := by rw [beq_eq_false_iff_ne]; exact h10
        have ht : tokC s[q] := ⟨fun g => g.elim (fun e => h32 ((byte_is (n := 32) (by decide)).1 e)) (fun e => h9 ((byte_is (n := 9) (by decide)).1 e)), fun e => h35 ((byte_is (n := 35) (by decide)).1 e), fun e => h10 ((byte_is (n := 10) (by decide)).1 e)⟩
        have hA := ahead ((bs s).drop q)
        have hTb : bs (s.extract q s.size) = (bs s).drop q := by rw [tail_mk, bs_mk]
        have hNl := tkN_le ((bs s).drop q)
        rw [List.length_drop, bs_len] at hNl
        obtain ⟨N, hN⟩ : ∃ N, tkN ((bs s).drop q) = N := ⟨_, rfl⟩
        rw [hN] at hA hNl
        have I1 := rlongest_at (s := s.extract q s.size) (n := N) (by rw [hTb]; exact hN) (by rw [ByteArray.size_extract]; omega)
        obtain ⟨M, hM⟩ : ∃ M : Nat, q + N = M := ⟨_, rfl⟩
        have hMs : M ≤ s.size := by omega
        have m0 : (q : Int) + (N : Int) = (M : Int) := by omega
        have m1 : (q : Int) ≤ (M : Int) := by omega
        have m2 : (M : Int) ≤ (s.size : Int) := by omega
        have m3 : (0 : Int) ≤ (N : Int) := by omega
        have hXb : mkS (((bs s).drop q).take N) = s.extract q M := by rw [← hM]; exact (cut_mk s q N).symm
        have hXs : (s.extract q M).size ≤ 9223372036854775807 := by rw [ByteArray.size_extract]; omega
        have hXb2 : bs (s.extract q M) = ((bs s).drop q).take N := by rw [← hXb, bs_mk]
        clear hN hTb h32 h9 h35 h10
        obtain ⟨h0, hw, hd, hf⟩ | ⟨v, h0, hw, hd, hn, hf⟩ | ⟨h0, hw, hd, hn, hf⟩ | ⟨h0, hw, hd, hf⟩ | ⟨h0, hw, hd, hf⟩ := hA
        · have I2 := rword_at (s := s.extract q M) (b := true) (by rw [hXb2]; exact hw) hXs
          have I3 := rdigits_at (s := s.extract q M) (b := false) (by rw [hXb2]; exact hd) hXs
          have HS2 := (ra_tok HS.out hp ht hf).2
          rw [hXb, hM] at HS2
          have HS3 := Lib.hid HS2
          have z : ((N : Int) == 0) = false := by rw [beq_eq_false_iff_ne]; omega
          obtain ⟨v2, w2, hrun, hw2⟩ := app2 HW.out (setL ⟨1, s.extract q M, 0, 0⟩ n) 31 (by omega)
          have HW2 := Lib.hid hw2
          have HO : Hid (opn (a ++ [setL ⟨1, s.extract q M, 0, 0⟩ n]) = true) := Lib.hid (by rw [opn_snoc]; rfl)
          have HMM := Lib.hid hM
          have h0' : (0 : Int) < (N : Int) := by omega
          clear hw hd hf HS2 hXb hXb2 hXs hw2 ht hNl hal hM
          go_wp2_with fail
          refine (I1 _).mono ?_
          rintro e w1 ⟨rfl, rfl⟩
          go_wp2_with fail
          refine (I2 _).mono ?_
          rintro e w1 ⟨rfl, rfl⟩
          go_wp2_with fail
          refine (I3 _).mono ?_
          rintro e w1 ⟨rfl, rfl⟩
          go_wp2_with (at_builtin; refine Lib.wpList_append_run _ rfl _ _ _ _ rfl _ _ rfl rfl _ _ hrun ?_)
          go_roundw
          case rel => exact ⟨M, n, _, hMs, rfl, by rw [HO.out], by go_num, HS3, HW2⟩
          case measure => simp [intOf]; omega
        · have I2 := rword_at (s := s.extract q M) (b := false) (by rw [hXb2]; exact hw) hXs
          have I3 := rdigits_at (s := s.extract q M) (b := true) (by rw [hXb2]; exact hd) hXs
          have I4 : ∀ w1, Calls Tryd.prog 21 #[.string (s.extract q M)] w1 fun e w' => e = .returned (.tuple #[.int .i64 v, .bool true]) ∧ w' = w1 := fun w1 => rnumber_at (o := some v) (by rw [hXb2]; exact hn) hXs w1
          have HS2 := (ra_tok HS.out hp ht hf).2
          rw [hM] at HS2
          have HS3 := Lib.hid HS2
          have z : ((N : Int) == 0) = false := by rw [beq_eq_false_iff_ne]; omega
          obtain ⟨v2, w2, hrun, hw2⟩ := app2 HW.out (setL ⟨2, mt, v, 0⟩ n) 31 (by omega)
          have HW2 := Lib.hid hw2
          have HO : Hid (opn (a ++ [setL ⟨2, mt, v, 0⟩ n]) = true) := Lib.hid (by rw [opn_snoc]; rfl)
          have HMM := Lib.hid hM
          have h0' : (0 : Int) < (N : Int) := by omega
          clear hw hd hf HS2 hXb hXb2 hXs hw2 ht hNl hal hM hn
          go_wp2_with fail
          refine (I1 _).mono ?_
          rintro e w1 ⟨rfl, rfl⟩
          go_wp2_with fail
          refine (I2 _).mono ?_
          rintro e w1 ⟨rfl, rfl⟩
          go_wp2_with fail
          refine (I3 _).mono ?_
          rintro e w1 ⟨rfl, rfl⟩
          go_wp2_with fail
          refine (I4 _).mono ?_
          rintro e w1 ⟨rfl, rfl⟩
          go_wp2_with (at_builtin; refine Lib.wpList_append_run _ rfl _ _ _ _ rfl _ _ rfl rfl _ _ hrun ?_)
          go_roundw
          case rel => exact ⟨M, n, _, hMs, rfl, by rw [HO.out], by go_num, HS3, HW2⟩
          case measure => simp [intOf]; omega
        · have I2 := rword_at (s := s.extract q M) (b := false) (by rw [hXb2]; exact hw) hXs
          have I3 := rdigits_at (s := s.extract q M) (b := true) (by rw [hXb2]; exact hd) hXs
          have I4 : ∀ w1, Calls Tryd.prog 21 #[.string (s.extract q M)] w1 fun e w' => e = .returned (.tuple #[.int .i64 0, .bool false]) ∧ w' = w1 := fun w1 => rnumber_at (o := Option.none) (by rw [hXb2]; exact hn) hXs w1
          have HE := Lib.hid (ra_bad HS.out hp ht hf)
          have hBW := HW.out.below
          clear hw hd hf hXb hXb2 hXs ht hNl hal hM hn
          go_wp2_with fail
          refine (I1 _).mono ?_
          rintro e w1 ⟨rfl, rfl⟩
          go_wp2_with fail
          refine (I2 _).mono ?_
          rintro e w1 ⟨rfl, rfl⟩
          go_wp2_with fail
          refine (I3 _).mono ?_
          rintro e w1 ⟨rfl, rfl⟩
          go_wp2_with fail
          refine (I4 _).mono ?_
          rintro e w1 ⟨rfl, rfl⟩
          go_wp2_with fail
          go_ret3
          exact rtok_bad HE.out HSS.out HRR.out (by (repeat (first | (with_reducible exact Below.refl _ _) | (with_reducible assumption) | (with_reducible apply bl_alloc) | (with_reducible apply bl_drewN) | (with_reducible apply bl_drew) | (with_reducible refine bl_set ?_ (by first | (simp; done) | (simp; omega)) _) | (with_reducible refine bl_call ?_ (by assumption))))) rfl
        · have I2 := rword_at (s := s.extract q M) (b := false) (by rw [hXb2]; exact hw) hXs
          have I3 := rdigits_at (s := s.extract q M) (b := false) (by rw [hXb2]; exact hd) hXs
          have HS2 := (ra_tok HS.out hp ht hf).2
          rw [hXb, hM] at HS2
          have HS3 := Lib.hid HS2
          have z : ((N : Int) == 0) = false := by rw [beq_eq_false_iff_ne]; omega
          obtain ⟨v2, w2, hrun, hw2⟩ := app2 HW.out (setL ⟨3, s.extract q M, 0, 0⟩ n) 31 (by omega)
          have HW2 := Lib.hid hw2
          have HO : Hid (opn (a ++ [setL ⟨3, s.extract q M, 0, 0⟩ n]) = true) := Lib.hid (by rw [opn_snoc]; rfl)
          have HMM := Lib.hid hM
          have h0' : (0 : Int) < (N : Int) := by omega
          clear hw hd hf HS2 hXb hXb2 hXs hw2 ht hNl hal hM
          go_wp2_with fail
          refine (I1 _).mono ?_
          rintro e w1 ⟨rfl, rfl⟩
          go_wp2_with fail
          refine (I2 _).mono ?_
          rintro e w1 ⟨rfl, rfl⟩
          go_wp2_with fail
          refine (I3 _).mono ?_
          rintro e w1 ⟨rfl, rfl⟩
          go_wp2_with (at_builtin; refine Lib.wpList_append_run _ rfl _ _ _ _ rfl _ _ rfl rfl _ _ hrun ?_)
          go_roundw
          case rel => exact ⟨M, n, _, hMs, rfl, by rw [HO.out], by go_num, HS3, HW2⟩
          case measure => simp [intOf]; omega
        · have I2 := rword_at (s := s.extract q M) (b := false) (by rw [hXb2]; exact hw) hXs
          have I3 := rdigits_at (s := s.extract q M) (b := false) (by rw [hXb2]; exact hd) hXs
          have HE := Lib.hid (ra_bad HS.out hp ht hf)
          have hBW := HW.out.below
          have z : ((N : Int) == 0) = true := by rw [beq_iff_eq]; omega
          clear hw hd hf hXb hXb2 hXs ht hNl hal hM h0
          go_wp2_with fail
          refine (I1 _).mono ?_
          rintro e w1 ⟨rfl, rfl⟩
          go_wp2_with fail
          refine (I2 _).mono ?_
          rintro e w1 ⟨rfl, rfl⟩
          go_wp2_with fail
          refine (I3 _).mono ?_
          rintro e w1 ⟨rfl, rfl⟩
          go_wp2_with fail
          go_ret3
          exact rtok_bad HE.out HSS.out HRR.out (by (repeat (first | (with_reducible exact Below.refl _ _) | (with_reducible assumption) | (with_reducible apply bl_alloc) | (with_reducible apply bl_drewN) | (with_reducible apply bl_drew) | (with_reducible refine bl_set ?_ (by first | (simp; done) | (simp; omega)) _) | (with_reducible refine bl_call ?_ (by assumption))))) rfl
      · have hq2 : q = s.size := by omega
        have HE := Lib.hid (ra_end HS.out hp)
        cases ho : opn a with
        | true =>
          obtain ⟨v2, w2, hrun, hw2⟩ := app1 HW.out ⟨4, mt, 0, (n : Int)⟩ (by omega)
          obtain ⟨v3, w3, hrun3, hw3⟩ := app1 hw2 ⟨0, mt, 0, (n : Int)⟩ (by rw [List.length_append]; simp; omega)
          have HW3 : Hid (RW w v3 (fin ⟨a, n, false⟩) w3) := Lib.hid (by unfold fin; rw [endL_yes ho]; exact hw3)
          clear hal ho hw2 hw3
          go_wp2_with (at_builtin; first | (refine Lib.wpList_append_run _ rfl _ _ _ _ rfl _ _ rfl rfl _ _ hrun ?_) | (refine Lib.wpList_append_run _ rfl _ _ _ _ rfl _ _ rfl rfl _ _ hrun3 ?_))
          go_ret3
          exact rtok_end HE.out HSS.out HRR.out HW3.out rfl
        | false =>
          obtain ⟨v3, w3, hrun3, hw3⟩ := app1 HW.out ⟨0, mt, 0, (n : Int)⟩ (by omega)
          have HW3 : Hid (RW w v3 (fin ⟨a, n, false⟩) w3) := Lib.hid (by unfold fin; rw [endL_no ho]; exact hw3)
          clear hal ho hw3
          go_wp2_with (at_builtin; (refine Lib.wpList_append_run _ rfl _ _ _ _ rfl _ _ rfl rfl _ _ hrun3 ?_))
          go_ret3
          exact rtok_end HE.out HSS.out HRR.out HW3.out rfl
end Go.Proofs.YtilnojcbebchdaaDoor.Lx
