/-
  The law of what is accepted, walked.
-/
import Derived.Test.YtilnojcbebchdaaDoorLxAwake
import Derived.Test.YtilnojcbebchdaaDoorLxAcc
namespace Go.Proofs.YtilnojcbebchdaaDoor.Lx
open Go.RowKit
set_option maxHeartbeats 4000000
set_option linter.unusedVariables false
set_option linter.unusedSimpArgs false
theorem tok_few {l : List UInt8} (h : l.length ≤ 600) : tokE l = 0 ∨ tokE l = 8 := by
  unfold tokE
  rw [if_neg (by omega)]
  split
  · exact .inr rfl
  · exact .inl rfl
set_option maxRecDepth 100000 in
theorem lexAccepts_walk (s : ByteArray) (w : World) (hs : s.size ≤ 140737488355328) (hE : Env w) : Calls Tryd.prog 4 #[.string s] w (Gives (.bool true) w) := by
  have HE := Lib.hid hE
  have I1 := tokens_any s w (by omega) hE
  have hs' : (s.size : Int) ≤ 9223372036854775807 := by omega
  obtain ⟨l, hl⟩ : ∃ l, tokL (bs s) = l := ⟨_, rfl⟩
  obtain ⟨m, hm⟩ : ∃ m, tokN (bs s) = m := ⟨_, rfl⟩
  obtain ⟨x, hx⟩ : ∃ x, tokE (bs s) = x := ⟨_, rfl⟩
  rw [hl, hm, hx] at I1
  clear hE hm
  by_cases h : 600 < s.size
  · have q : decide ((600 : Int) < (s.size : Int)) = true := decide_eq_true (by omega)
    clear hl hx
    go_enter Tryd.func4, Tryd.ntmps4
    go_wp2_with fail
    refine I1.mono ?_
    rintro e w1 ⟨v1, rfl, -, hb1⟩
    go_wp2_with fail
    refine (awake_any w1 (HE.out.below hb1)).mono ?_
    rintro e w9 ⟨rfl, hb9⟩
    go_wp2_with fail
    go_ret
    exact ⟨rfl, by have HBB := hb1; (repeat (first | (with_reducible exact Below.refl _ _) | (with_reducible assumption) | (with_reducible apply bl_alloc) | (with_reducible apply bl_drewN) | (with_reducible apply bl_drew) | (with_reducible refine bl_set ?_ (by first | (simp; done) | (simp; omega)) _) | (with_reducible refine bl_call ?_ (by assumption))))⟩
  · have q : decide ((600 : Int) < (s.size : Int)) = false := decide_eq_false (by omega)
    rcases tok_few (l := bs s) (by rw [bs_len]; omega) with h0 | h0
    · have hV := tok_valid h0
      rw [hl] at hV
      rw [hx] at h0
      subst h0
      have HC0 : Hid (chkL l = 0) := Lib.hid hV.1
      have HL0 : Hid (linL l = cntL l l.length) := Lib.hid (by unfold linL; rw [if_pos hV.1])
      have HF : Hid (Fits l) := Lib.hid fun y hy => by have := hV.2 y hy; rw [bs_len] at this; omega
      clear hV hl hx
      go_enter Tryd.func4, Tryd.ntmps4
      go_wp2_with fail
      refine I1.mono ?_
      rintro e w1 ⟨v1, rfl, ho, hb1⟩
      obtain ⟨p, c, rfl, hT, -, -⟩ := own_toks ho
      have HT := Lib.hid hT
      have HB1 := Lib.hid hb1
      have hn : (l.length : Int) ≤ 9223372036854775807 := by have := hT.2.1; omega
      obtain ⟨n, hN⟩ : ∃ n, l.length = n := ⟨_, rfl⟩
      have HL := Lib.hid hN
      rw [hN] at HT HL0 hn ⊢
      clear hT hb1 ho I1 hN
      go_wp2_with fail
      go_loop [6, 7] (fun q i => ∃ k : Nat, k ≤ n ∧ i = .int .i64 (k : Nat) ∧ q = .int .i64 ((cntL l k : Nat) : Int)) (fun q i => n - (intOf i).toNat)
      case atStart => exact ⟨0, Nat.zero_le _, rfl, rfl⟩
      case round =>
        obtain ⟨k, hk, rfl, rfl⟩ := hrel
        have d1 : (0 : Int) ≤ (k : Int) := by omega
        have hcl := cnt_le l k
        have HS : Hid (cntL l (k + 1) = if (l.getD k ⟨4, mt, 0, 0⟩).k = 4 then cntL l k + 1 else cntL l k) := Lib.hid rfl
        rcases Nat.lt_or_ge k n with h | h
        · obtain ⟨C, hC⟩ : ∃ C, cntL l k = C := ⟨_, rfl⟩
          rw [hC] at hcl HS ⊢
          clear hC
          have d2 : (k : Int) < (n : Int) := by omega
          obtain ⟨b, o, hp, hb, hc⟩ := toks_at HT.out h
          subst hp
          have hkl : k < l.length := by rw [HL.out]; exact h
          have e1 := (hc k hkl).1
          rw [getD_at hkl] at HS
          obtain ⟨K, hK⟩ : ∃ K, (l[k]).k = K := ⟨_, rfl⟩
          rw [hK] at e1 HS
          clear hc hK
          by_cases g4 : K = 4
          · have HS2 : Hid (cntL l (k + 1) = C + 1) := Lib.hid (by rw [HS.out, if_pos g4])
            have q4 : (K == 4) = true := beq_iff_eq.2 g4
            subst g4
            clear HS
            go_wp2_with fail
            go_round
            case rel => exact ⟨k + 1, by omega, by go_num, by rw [HS2.out]; go_num⟩
            case measure => simp [intOf]; omega
          · have HS2 : Hid (cntL l (k + 1) = C) := Lib.hid (by rw [HS.out, if_neg g4])
            have q4 : (K == 4) = false := beq_eq_false_iff_ne.2 g4
            clear HS
            go_wp2_with fail
            go_round
            case rel => exact ⟨k + 1, by omega, by go_num, by rw [HS2.out]⟩
            case measure => simp [intOf]; omega
        · obtain rfl : k = n := by omega
          have J1 := check_at (c := c) HC0.out w1 HT.out HF.out
          have J2 := fun w2 (hb : Below w1.heap.size w1 w2) => lines_at (c := c) HL0.out w2 (HT.out.on hb) HF.out
          obtain ⟨C, hC⟩ : ∃ C, cntL l k = C := ⟨_, rfl⟩
          simp only [hC] at J2 ⊢
          clear hC hcl HS
          go_wp2_with fail
          refine J1.mono ?_
          rintro e w2 ⟨rfl, hb2⟩
          have HB2 : Hid (Below w.heap.size w w2) := Lib.hid (by have HBB := HB1.out; (repeat (first | (with_reducible exact Below.refl _ _) | (with_reducible assumption) | (with_reducible apply bl_alloc) | (with_reducible apply bl_drewN) | (with_reducible apply bl_drew) | (with_reducible refine bl_set ?_ (by first | (simp; done) | (simp; omega)) _) | (with_reducible refine bl_call ?_ (by assumption)))))
          go_wp2_with fail
          refine (J2 w2 hb2).mono ?_
          rintro e w3 ⟨rfl, hb3⟩
          have HB3 : Hid (Below w.heap.size w w3) := Lib.hid (by have HBB := HB2.out; (repeat (first | (with_reducible exact Below.refl _ _) | (with_reducible assumption) | (with_reducible apply bl_alloc) | (with_reducible apply bl_drewN) | (with_reducible apply bl_drew) | (with_reducible refine bl_set ?_ (by first | (simp; done) | (simp; omega)) _) | (with_reducible refine bl_call ?_ (by assumption)))))
          clear hb2 hb3 J2
          go_wp2_with fail
          refine (awake_any w3 (HE.out.below HB3.out)).mono ?_
          rintro e w9 ⟨rfl, hb9⟩
          go_wp2_with fail
          go_ret
          exact ⟨rfl, by have HBB := HB3.out; (repeat (first | (with_reducible exact Below.refl _ _) | (with_reducible assumption) | (with_reducible apply bl_alloc) | (with_reducible apply bl_drewN) | (with_reducible apply bl_drew) | (with_reducible refine bl_set ?_ (by first | (simp; done) | (simp; omega)) _) | (with_reducible refine bl_call ?_ (by assumption))))⟩
    · rw [hx] at h0
      subst h0
      clear hl hx
      go_enter Tryd.func4, Tryd.ntmps4
      go_wp2_with fail
      refine I1.mono ?_
      rintro e w1 ⟨v1, rfl, -, hb1⟩
      go_wp2_with fail
      refine (awake_any w1 (HE.out.below hb1)).mono ?_
      rintro e w9 ⟨rfl, hb9⟩
      go_wp2_with fail
      go_ret
      exact ⟨rfl, by have HBB := hb1; (repeat (first | (with_reducible exact Below.refl _ _) | (with_reducible assumption) | (with_reducible apply bl_alloc) | (with_reducible apply bl_drewN) | (with_reducible apply bl_drew) | (with_reducible refine bl_set ?_ (by first | (simp; done) | (simp; omega)) _) | (with_reducible refine bl_call ?_ (by assumption))))⟩
end Go.Proofs.YtilnojcbebchdaaDoor.Lx
