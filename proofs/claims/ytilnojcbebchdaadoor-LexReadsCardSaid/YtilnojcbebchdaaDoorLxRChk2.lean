/-
  The contract of the reference's Check, walked.
-/
import Derived.Test.YtilnojcbebchdaaDoorLxRChk
namespace Go.Proofs.YtilnojcbebchdaaDoor.Lx
open Go.RowKit
set_option maxHeartbeats 8000000
set_option linter.unusedVariables false
set_option linter.unusedSimpArgs false
theorem chk_low {l : List Tk} {k : Nat} (hk : k < l.length) (h : (l[k]).k < 0 ∨ 4 < (l[k]).k) : chkK l k = 1 := by
  unfold chkK chkA
  rw [getD_at hk, if_pos h]
theorem chk_form {l : List Tk} {k : Nat} (hk : k < l.length) (g0 : ¬ (l[k]).k < 0) (g1 : ¬ 4 < (l[k]).k) (hf : fmB l[k] = false) : chkK l k = 8 := by
  unfold chkK chkA
  rw [getD_at hk, if_neg (by omega), hf, if_pos (by simp)]
/-- The reference's Check between two rounds. -/
structure RC (w : World) (l : List Tk) (k : Nat) (wr : World) : Prop where
  ok : orF (chkK l) k = 0
  cell : bx wr w.heap.size (bef l k)
  below : Below w.heap.size w wr
set_option maxRecDepth 100000 in
theorem rcheck_any {p : Option Addr} {n c : Nat} {l : List Tk} (w : World) (hT : Toks w p n l) (hF : Fits l) : Calls Tryd.prog 18 #[.slice p n c] w (Gives (.int .i64 (chkL l)) w) := by
  have HL := Lib.hid hT.1
  have hn : (n : Int) ≤ 9223372036854775807 := by have := hT.2.1; omega
  have HT := Lib.hid hT
  have HFF := Lib.hid hF
  clear hT hF
  go_enter Tryd.func18, Tryd.ntmps18
  go_wp2_with fail
  go_loopw [4] (fun i wr => ∃ k : Nat, k ≤ n ∧ i = .int .i64 (k : Nat) ∧ Hid (RC w l k wr)) (fun i wr => n - (intOf i).toNat)
  case atStart => exact ⟨0, Nat.zero_le _, rfl, Lib.hid ⟨rfl, bx.new (x := ⟨4, mt, 0, 0⟩), bl_alloc (Below.refl _ _)⟩⟩
  case round =>
    obtain ⟨k, hk, rfl, HC⟩ := hrel
    have d1 : (0 : Int) ≤ (k : Int) := by omega
    rcases Nat.lt_or_ge k n with h | h
    · have d2 : (k : Int) < (n : Int) := by omega
      have hkl : k < l.length := by rw [HL.out]; exact h
      have hbr := HC.out.below
      obtain ⟨b, o, hp, hb, hc⟩ := toks_at HT.out h
      subst hp
      obtain ⟨e1, e2, e3, e4⟩ := cell4.on hbr hb (hc k hkl)
      have Z := HC.out.cell
      have HF : Hid (∀ v, chkK l k = v → ¬ v = 0 → chkL l = v) := Lib.hid fun v h1 h2 => chk_hit HC.out.ok h1 h2 hkl
      have HN : Hid (chkK l k = 0 → orF (chkK l) (k + 1) = 0) := Lib.hid fun e => orF_next HC.out.ok e
      have HLO := Lib.hid (fun e => chk_low hkl e)
      have HFO := Lib.hid (fun g0 g1 hf => chk_form hkl g0 g1 hf)
      have HRE := Lib.hid (fun g0 g1 hf => chk_ref hkl HC.out.ok g0 g1 hf)
      have HBE : Hid (bef l (k + 1) = l[k]) := Lib.hid (bef_succ hkl)
      have I1 := fun w1 => rformed_any l[k] w1 (HFF.out _ (List.getElem_mem hkl))
      obtain ⟨X, hX⟩ : ∃ X, l[k] = X := ⟨_, rfl⟩
      rw [hX] at e1 e2 e3 e4 I1 HLO HFO HRE HBE
      have hNn : l.length = n := HL.out
      rw [hNn] at HRE
      obtain ⟨Y, hY⟩ : ∃ Y, bef l k = Y := ⟨_, rfl⟩
      rw [hY] at Z HRE
      have hBX : Below w.heap.size w (wr.alloc (.cells #[.int .i64 X.k, .string X.t, .int .i64 X.n, .int .i64 X.l] 31)) := bl_alloc hbr
      have ZB := bx.on ((Below.refl _ wr).alloc (Nat.le_refl _) (.cells #[.int .i64 X.k, .string X.t, .int .i64 X.n, .int .i64 X.l] 31)) Z
      have ZX := bx.new (w := wr) (x := X)
      have hRs : w.heap.size < wr.heap.size := Z.2.2.2.2.2
      have HNN := Lib.hid hNn
      obtain ⟨m, hm⟩ : ∃ m, n = m + 1 := ⟨n - 1, by omega⟩
      have c1 : (n : Int) - 1 = (m : Int) := by omega
      have HM := Lib.hid hm
      clear hc hX hY HC hNn hm
      by_cases k1 : X.k < 0
      · have HR := Lib.hid (HF.out 1 (HLO.out (.inl k1)) (by decide))
        have q1 : decide (X.k < 0) = true := decide_eq_true k1
        clear HF HN HLO HFO HRE HBE
        obtain ⟨z1, z2, z3, z4, z5, z6⟩ := Z
        go_wp2_with fail
        go_ret
        exact gives_eq (by rw [HR.out]; rfl) (by (repeat (first | (with_reducible exact Below.refl _ _) | (with_reducible assumption) | (with_reducible apply bl_alloc) | (with_reducible apply bl_drewN) | (with_reducible apply bl_drew) | (with_reducible refine bl_set ?_ (by first | (simp; done) | (simp; omega)) _) | (with_reducible refine bl_call ?_ (by assumption)))))
      have q1 : decide (X.k < 0) = false := decide_eq_false k1
      by_cases k2 : 4 < X.k
      · have HR := Lib.hid (HF.out 1 (HLO.out (.inr k2)) (by decide))
        have q2 : decide (4 < X.k) = true := decide_eq_true k2
        clear HF HN HLO HFO HRE HBE
        obtain ⟨z1, z2, z3, z4, z5, z6⟩ := Z
        go_wp2_with fail
        go_ret
        exact gives_eq (by rw [HR.out]; rfl) (by (repeat (first | (with_reducible exact Below.refl _ _) | (with_reducible assumption) | (with_reducible apply bl_alloc) | (with_reducible apply bl_drewN) | (with_reducible apply bl_drew) | (with_reducible refine bl_set ?_ (by first | (simp; done) | (simp; omega)) _) | (with_reducible refine bl_call ?_ (by assumption)))))
      have q2 : decide (4 < X.k) = false := decide_eq_false k2
      cases hf : fmB X with
      | false =>
        have HR := Lib.hid (HF.out 8 (HFO.out k1 k2 hf) (by decide))
        rw [hf] at I1
        clear HF HN HLO HFO HRE HBE hf
        obtain ⟨z1, z2, z3, z4, z5, z6⟩ := Z
        go_wp2_with fail
        refine (I1 _).mono ?_
        rintro e w2 ⟨rfl, hb2⟩
        go_wp2_with fail
        go_ret
        exact gives_eq (by rw [HR.out]; rfl) (by (repeat (first | (with_reducible exact Below.refl _ _) | (with_reducible assumption) | (with_reducible apply bl_alloc) | (with_reducible apply bl_drewN) | (with_reducible apply bl_drew) | (with_reducible refine bl_set ?_ (by first | (simp; done) | (simp; omega)) _) | (with_reducible refine bl_call ?_ (by assumption)))))
      | true =>
        have HV := Lib.hid (HRE.out k1 k2 hf)
        rw [hf] at I1
        clear HLO HFO HRE hf
        obtain ⟨bb, hbb⟩ : ∃ bb, decide (k + 1 = n) = bb := ⟨_, rfl⟩
        have qm : ((k : Int) == (m : Int)) = bb := by
          rw [← hbb]
          have := HM.out
          by_cases e : k = m
          · subst e; rw [decide_eq_true (by omega)]; simp
          · rw [decide_eq_false (by omega), beq_eq_false_iff_ne]; omega
        rw [hbb] at HV
        clear hbb
        have qn : ((k : Int) != (m : Int)) = !bb := by simp only [bne, qm]
        have HY : Hid (∀ w2 K L, Below wr.heap.size wr w2 → X.k = K → X.l = L → chkK l k = 0 → RC w l (k + 1) ((((w2.setCell ⟨w.heap.size, 0, none⟩ (.int .i64 K)).setCell ⟨w.heap.size, 1, none⟩ (.string X.t)).setCell ⟨w.heap.size, 2, none⟩ (.int .i64 X.n)).setCell ⟨w.heap.size, 3, none⟩ (.int .i64 L))) := Lib.hid fun w2 K L hb2 eK eL e => by
          subst eK eL
          refine ⟨HN.out e, ?_, ?_⟩
          · rw [HBE.out]; exact bx.set4 (bx.on hb2 Z)
          · exact bl_set (bl_set (bl_set (bl_set (bl_call hbr hb2) (Nat.le_refl _) _) (Nat.le_refl _) _) (Nat.le_refl _) _) (Nat.le_refl _) _
        clear HN HBE
        cases bb with
        | true =>
          have HV2 : Hid (chkK l k = if (X.k = 4 ∧ Y.k = 4) ∨ (X.k = 0 ∧ ¬ Y.k = 4) then 8 else if X.l < 1 ∨ (¬ Y.k = 4 ∧ ¬ X.l = Y.l) ∨ X.l < Y.l ∨ (Y.k = 4 ∧ ¬ X.k = 0 ∧ X.l = Y.l) then 12 else 0) := Lib.hid (by rw [HV.out]; unfold refA; simp)
          clear HV
          go_wp2_with fail
          refine (I1 _).mono ?_
          rintro e w2 ⟨rfl, hb2⟩
          have HB2 : Hid (Below wr.heap.size wr w2) := Lib.hid (bl_call (bl_alloc (Below.refl _ _)) hb2)
          obtain ⟨z1, z2, z3, z4, z5, z6⟩ := bx.on hb2 ZB
          obtain ⟨y1, y2, y3, y4, y5, y6⟩ := bx.on hb2 ZX
          clear Z ZB ZX
          go_wp2_with fail
          all_goals try simp only [beq_iff_eq, beq_eq_false_iff_ne, bne_iff_ne, bne_eq_false_iff_eq, ne_eq, Classical.not_not] at *
          all_goals first
            | (exfalso; omega)
            | (go_ret; exact gives_eq (by rw [HF.out 8 (HV2.out.trans (if_pos (by omega))) (by decide)]; rfl) (by (repeat (first | (with_reducible exact Below.refl _ _) | (with_reducible assumption) | (with_reducible apply bl_alloc) | (with_reducible apply bl_drewN) | (with_reducible apply bl_drew) | (with_reducible refine bl_set ?_ (by first | (simp; done) | (simp; omega)) _) | (with_reducible refine bl_call ?_ (by assumption))))))
            | (go_ret; exact gives_eq (by rw [HF.out 12 (HV2.out.trans ((if_neg (by omega)).trans (if_pos (by omega)))) (by decide)]; rfl) (by (repeat (first | (with_reducible exact Below.refl _ _) | (with_reducible assumption) | (with_reducible apply bl_alloc) | (with_reducible apply bl_drewN) | (with_reducible apply bl_drew) | (with_reducible refine bl_set ?_ (by first | (simp; done) | (simp; omega)) _) | (with_reducible refine bl_call ?_ (by assumption))))))
            | (refine ⟨⟨k + 1, by omega, by go_num, Lib.hid (HY.out _ _ _ HB2.out (by first | rfl | assumption | omega) (by first | rfl | assumption | omega) (HV2.out.trans ((if_neg (by omega)).trans (if_neg (by omega)))))⟩, ?_⟩; simp [intOf]; omega)
            | (go_roundw; case rel => exact ⟨k + 1, by omega, by go_num, Lib.hid (HY.out _ _ _ HB2.out (by first | rfl | assumption | omega) (by first | rfl | assumption | omega) (HV2.out.trans ((if_neg (by omega)).trans (if_neg (by omega)))))⟩; case measure => simp [intOf]; omega)
        | false =>
          have HV2 : Hid (chkK l k = if (X.k = 4 ∧ Y.k = 4) ∨ X.k = 0 then 8 else if X.l < 1 ∨ (¬ Y.k = 4 ∧ ¬ X.l = Y.l) ∨ X.l < Y.l ∨ (Y.k = 4 ∧ ¬ X.k = 0 ∧ X.l = Y.l) then 12 else 0) := Lib.hid (by rw [HV.out]; unfold refA; simp)
          clear HV
          go_wp2_with fail
          refine (I1 _).mono ?_
          rintro e w2 ⟨rfl, hb2⟩
          have HB2 : Hid (Below wr.heap.size wr w2) := Lib.hid (bl_call (bl_alloc (Below.refl _ _)) hb2)
          obtain ⟨z1, z2, z3, z4, z5, z6⟩ := bx.on hb2 ZB
          obtain ⟨y1, y2, y3, y4, y5, y6⟩ := bx.on hb2 ZX
          clear Z ZB ZX
          go_wp2_with fail
          all_goals try simp only [beq_iff_eq, beq_eq_false_iff_ne, bne_iff_ne, bne_eq_false_iff_eq, ne_eq, Classical.not_not] at *
          all_goals first
            | (exfalso; omega)
            | (go_ret; exact gives_eq (by rw [HF.out 8 (HV2.out.trans (if_pos (by omega))) (by decide)]; rfl) (by (repeat (first | (with_reducible exact Below.refl _ _) | (with_reducible assumption) | (with_reducible apply bl_alloc) | (with_reducible apply bl_drewN) | (with_reducible apply bl_drew) | (with_reducible refine bl_set ?_ (by first | (simp; done) | (simp; omega)) _) | (with_reducible refine bl_call ?_ (by assumption))))))
            | (go_ret; exact gives_eq (by rw [HF.out 12 (HV2.out.trans ((if_neg (by omega)).trans (if_pos (by omega)))) (by decide)]; rfl) (by (repeat (first | (with_reducible exact Below.refl _ _) | (with_reducible assumption) | (with_reducible apply bl_alloc) | (with_reducible apply bl_drewN) | (with_reducible apply bl_drew) | (with_reducible refine bl_set ?_ (by first | (simp; done) | (simp; omega)) _) | (with_reducible refine bl_call ?_ (by assumption))))))
            | (refine ⟨⟨k + 1, by omega, by go_num, Lib.hid (HY.out _ _ _ HB2.out (by first | rfl | assumption | omega) (by first | rfl | assumption | omega) (HV2.out.trans ((if_neg (by omega)).trans (if_neg (by omega)))))⟩, ?_⟩; simp [intOf]; omega)
            | (go_roundw; case rel => exact ⟨k + 1, by omega, by go_num, Lib.hid (HY.out _ _ _ HB2.out (by first | rfl | assumption | omega) (by first | rfl | assumption | omega) (HV2.out.trans ((if_neg (by omega)).trans (if_neg (by omega)))))⟩; case measure => simp [intOf]; omega)
    · obtain rfl : k = n := by omega
      have HV := Lib.hid (chk_end (by rw [HL.out]; exact HC.out.ok))
      have hbr := HC.out.below
      obtain ⟨z1, z2, z3, z4, z5, z6⟩ := HC.out.cell
      have hll := HL.out
      rw [hll] at HV
      obtain ⟨K, hK⟩ : ∃ K, (bef l k).k = K := ⟨_, rfl⟩
      rw [hK] at HV z1
      clear HC hK hll
      by_cases hz : K = 0
      · have HR := Lib.hid (HV.out.trans (if_pos hz))
        subst hz
        go_wp2_with fail
        go_ret
        exact gives_eq (by rw [HR.out]; rfl) (by (repeat (first | (with_reducible exact Below.refl _ _) | (with_reducible assumption) | (with_reducible apply bl_alloc) | (with_reducible apply bl_drewN) | (with_reducible apply bl_drew) | (with_reducible refine bl_set ?_ (by first | (simp; done) | (simp; omega)) _) | (with_reducible refine bl_call ?_ (by assumption)))))
      · have HR := Lib.hid (HV.out.trans (if_neg hz))
        have q : (K == 0) = false := beq_eq_false_iff_ne.2 hz
        have q2 : (K != 0) = true := by simp only [bne, q]; rfl
        go_wp2_with fail
        go_ret
        exact gives_eq (by rw [HR.out]; rfl) (by (repeat (first | (with_reducible exact Below.refl _ _) | (with_reducible assumption) | (with_reducible apply bl_alloc) | (with_reducible apply bl_drewN) | (with_reducible apply bl_drew) | (with_reducible refine bl_set ?_ (by first | (simp; done) | (simp; omega)) _) | (with_reducible refine bl_call ?_ (by assumption)))))
end Go.Proofs.YtilnojcbebchdaaDoor.Lx
