/-
  The contracts of Check, Lines and the reference's Same.
-/
import Derived.Test.YtilnojcbebchdaaDoorLxChk
namespace Go.Proofs.YtilnojcbebchdaaDoor.Lx
open Go.RowKit
set_option maxHeartbeats 2000000
set_option linter.unusedVariables false
theorem chk_hit {l : List Tk} {k : Nat} {v : Int} (h0 : orF (chkK l) k = 0) (h1 : chkK l k = v) (h2 : ¬ v = 0) (hk : k < l.length) : chkL l = v := by
  have e := orF_hit h0 (by rw [h1]; exact h2) hk
  unfold chkL
  rw [if_neg (by rw [e, h1]; exact h2), e, h1]
theorem chk_end {l : List Tk} (h0 : orF (chkK l) l.length = 0) : chkL l = if (bef l l.length).k = 0 then 0 else 8 := by unfold chkL; rw [if_pos h0]
set_option maxRecDepth 100000 in
theorem check_any {p : Option Addr} {n c : Nat} {l : List Tk} (w : World) (hT : Toks w p n l) (hF : Fits l) : Calls Tryd.prog 14 #[.slice p n c] w (Gives (.int .i64 (chkL l)) w) := by
  have HC := Lib.hid fun w1 (hb : Below w.heap.size w w1) k (hk : k < n) => checkat_any (c := c) w1 (hT.on hb) hF hk
  have HL := Lib.hid hT.1
  have hn : (n : Int) ≤ 9223372036854775807 := by have := hT.2.1; omega
  have HT := Lib.hid hT
  clear hT hF
  go_enter Tryd.func14, Tryd.ntmps14
  go_wp2_with fail
  go_loopw [7] (fun i wr => ∃ k : Nat, k ≤ n ∧ i = .int .i64 (k : Nat) ∧ Hid (orF (chkK l) k = 0) ∧ Below w.heap.size w wr) (fun i wr => n - (intOf i).toNat)
  case atStart => exact ⟨0, Nat.zero_le _, rfl, Lib.hid rfl, Below.refl _ _⟩
  case round =>
    obtain ⟨k, hk, rfl, HO, hbr⟩ := hrel
    have d1 : (0 : Int) ≤ (k : Int) := by omega
    rcases Nat.lt_or_ge k n with h | h
    · have d2 : (k : Int) < (n : Int) := by omega
      have I1 := HC.out wr hbr k h
      obtain ⟨v, hv⟩ : ∃ v, chkK l k = v := ⟨_, rfl⟩
      rw [hv] at I1
      by_cases hz : v = 0
      · subst hz
        have HO2 := Lib.hid (orF_next HO.out hv)
        clear hv
        go_wp2_with fail
        refine I1.mono ?_
        rintro e w2 ⟨rfl, hb2⟩
        go_wp2_with fail
        go_roundw
        case rel => exact ⟨k + 1, by omega, by go_num, HO2, by (repeat (first | (with_reducible exact Below.refl _ _) | (with_reducible assumption) | (with_reducible apply bl_alloc) | (with_reducible apply bl_drewN) | (with_reducible apply bl_drew) | (with_reducible refine bl_set ?_ (by first | (simp; done) | (simp; omega)) _) | (with_reducible refine bl_call ?_ (by assumption))))⟩
        case measure => simp [intOf]; omega
      · have HR := Lib.hid (chk_hit HO.out hv hz (by rw [HL.out]; exact h))
        have q : (v == 0) = false := beq_eq_false_iff_ne.2 hz
        have q2 : (v != 0) = true := by simp only [bne, q]; rfl
        clear hv
        go_wp2_with fail
        refine I1.mono ?_
        rintro e w2 ⟨rfl, hb2⟩
        go_wp2_with fail
        go_ret
        exact gives_eq (by rw [HR.out]; rfl) (by (repeat (first | (with_reducible exact Below.refl _ _) | (with_reducible assumption) | (with_reducible apply bl_alloc) | (with_reducible apply bl_drewN) | (with_reducible apply bl_drew) | (with_reducible refine bl_set ?_ (by first | (simp; done) | (simp; omega)) _) | (with_reducible refine bl_call ?_ (by assumption)))))
    · obtain rfl : k = n := by omega
      have HV := Lib.hid (chk_end (by rw [HL.out]; exact HO.out))
      cases k with
      | zero =>
        have HR : Hid (chkL l = 8) := Lib.hid (by
          have e := HV.out
          rw [HL.out, bef_zero] at e
          exact e)
        clear HV
        go_wp2_with fail
        go_ret
        exact gives_eq (by rw [HR.out]; rfl) (by (repeat (first | (with_reducible exact Below.refl _ _) | (with_reducible assumption) | (with_reducible apply bl_alloc) | (with_reducible apply bl_drewN) | (with_reducible apply bl_drew) | (with_reducible refine bl_set ?_ (by first | (simp; done) | (simp; omega)) _) | (with_reducible refine bl_call ?_ (by assumption)))))
      | succ m =>
        have hll := HL.out
        obtain ⟨b, o, rfl, hb, hc⟩ := toks_at (HT.out.on hbr) (Nat.lt_succ_self m)
        have e1 := (hc m (by omega)).1
        have HV2 := HV.out
        rw [hll, bef_succ (by omega)] at HV2
        obtain ⟨K, hK⟩ : ∃ K, (l[m]'(by omega)).k = K := ⟨_, rfl⟩
        rw [hK] at e1 HV2
        have HV3 := Lib.hid HV2
        obtain ⟨N, hN⟩ : ∃ N : Nat, m + 1 = N := ⟨_, rfl⟩
        have c0 : ((N : Int) == 0) = false := by rw [beq_eq_false_iff_ne]; omega
        have c1 : (N : Int) - 1 = (m : Int) := by omega
        have c2 : (0 : Int) ≤ (m : Int) := by omega
        have c3 : (m : Int) < (N : Int) := by omega
        rw [hN] at hn d1 h ⊢
        clear HC HL HO HV HT HV2 hK hc hll hN hk
        by_cases hz : K = 0
        · have HR := Lib.hid (HV3.out.trans (if_pos hz))
          subst hz
          go_wp2_with fail
          go_ret
          exact gives_eq (by rw [HR.out]; rfl) (by (repeat (first | (with_reducible exact Below.refl _ _) | (with_reducible assumption) | (with_reducible apply bl_alloc) | (with_reducible apply bl_drewN) | (with_reducible apply bl_drew) | (with_reducible refine bl_set ?_ (by first | (simp; done) | (simp; omega)) _) | (with_reducible refine bl_call ?_ (by assumption)))))
        · have HR := Lib.hid (HV3.out.trans (if_neg hz))
          have q : (K == 0) = false := beq_eq_false_iff_ne.2 hz
          have q2 : (K != 0) = true := by simp only [bne, q]; rfl
          go_wp2_with fail
          go_ret
          exact gives_eq (by rw [HR.out]; rfl) (by (repeat (first | (with_reducible exact Below.refl _ _) | (with_reducible assumption) | (with_reducible apply bl_alloc) | (with_reducible apply bl_drewN) | (with_reducible apply bl_drew) | (with_reducible refine bl_set ?_ (by first | (simp; done) | (simp; omega)) _) | (with_reducible refine bl_call ?_ (by assumption)))))
theorem check_at {p : Option Addr} {n c : Nat} {l : List Tk} {v : Int} (h : chkL l = v) (w : World) (hT : Toks w p n l) (hF : Fits l) : Calls Tryd.prog 14 #[.slice p n c] w (Gives (.int .i64 v) w) := by rw [← h]; exact check_any w hT hF
/-- How many of the first k are ends of lines. -/
def cntL (l : List Tk) : Nat → Nat
  | 0 => 0
  | k + 1 => if (l.getD k ⟨4, mt, 0, 0⟩).k = 4 then cntL l k + 1 else cntL l k
theorem cnt_le (l : List Tk) : ∀ k, cntL l k ≤ k
  | 0 => Nat.le_refl _
  | k + 1 => by
    have h := cnt_le l k
    show (if (l.getD k ⟨4, mt, 0, 0⟩).k = 4 then cntL l k + 1 else cntL l k) ≤ k + 1
    by_cases g : (l.getD k ⟨4, mt, 0, 0⟩).k = 4
    · rw [if_pos g]; exact Nat.succ_le_succ h
    · rw [if_neg g]; exact Nat.le_succ_of_le h
def linL (l : List Tk) : Nat := if chkL l = 0 then cntL l l.length else 0
set_option maxRecDepth 100000 in
theorem lines_any {p : Option Addr} {n c : Nat} {l : List Tk} (w : World) (hT : Toks w p n l) (hF : Fits l) : Calls Tryd.prog 15 #[.slice p n c] w (Gives (.int .i64 ((linL l : Nat) : Int)) w) := by
  have I1 := check_any (c := c) w hT hF
  have hn : (n : Int) ≤ 9223372036854775807 := by have := hT.2.1; omega
  by_cases h0 : chkL l = 0
  · rw [h0] at I1
    have HR : Hid (linL l = cntL l n) := Lib.hid (by unfold linL; rw [if_pos h0, hT.1])
    have HL := Lib.hid hT.1
    have HT := Lib.hid hT
    clear h0 hT hF
    go_enter Tryd.func15, Tryd.ntmps15
    go_wp2_with fail
    refine I1.mono ?_
    rintro e w1 ⟨rfl, hb1⟩
    go_wp2_with fail
    go_loopw [3, 11] (fun q i wr => ∃ k : Nat, k ≤ n ∧ i = .int .i64 (k : Nat) ∧ q = .int .i64 ((cntL l k : Nat) : Int) ∧ Below w.heap.size w wr) (fun q i wr => n - (intOf i).toNat)
    case atStart => exact ⟨0, Nat.zero_le _, rfl, rfl, hb1⟩
    case round =>
      obtain ⟨k, hk, rfl, rfl, hbr⟩ := hrel
      have d1 : (0 : Int) ≤ (k : Int) := by omega
      have hcl := cnt_le l k
      have HS : Hid (cntL l (k + 1) = if (l.getD k ⟨4, mt, 0, 0⟩).k = 4 then cntL l k + 1 else cntL l k) := Lib.hid rfl
      obtain ⟨C, hC⟩ : ∃ C, cntL l k = C := ⟨_, rfl⟩
      rw [hC] at hcl HS ⊢
      have HCC := Lib.hid hC
      clear hC
      rcases Nat.lt_or_ge k n with h | h
      · have d2 : (k : Int) < (n : Int) := by omega
        obtain ⟨b, o, hp, hb, hc⟩ := toks_at (HT.out.on hbr) h
        subst hp
        have hkl : k < l.length := by rw [HL.out]; exact h
        have hx := hc k hkl
        rw [getD_at hkl] at HS
        obtain ⟨X, hX⟩ : ∃ X, l[k] = X := ⟨_, rfl⟩
        rw [hX] at hx HS
        obtain ⟨e1, e2, e3, e4⟩ := hx
        clear hc hX
        by_cases hz : X.k = 4
        · have HS2 := Lib.hid (HS.out.trans (if_pos hz))
          rw [hz] at e1
          clear HS hz
          go_wp2_with fail
          go_roundw
          case rel => exact ⟨k + 1, by omega, by go_num, by rw [HS2.out]; go_num, by (repeat (first | (with_reducible exact Below.refl _ _) | (with_reducible assumption) | (with_reducible apply bl_alloc) | (with_reducible apply bl_drewN) | (with_reducible apply bl_drew) | (with_reducible refine bl_set ?_ (by first | (simp; done) | (simp; omega)) _) | (with_reducible refine bl_call ?_ (by assumption))))⟩
          case measure => simp [intOf]; omega
        · have HS2 := Lib.hid (HS.out.trans (if_neg hz))
          have q : (X.k == 4) = false := beq_eq_false_iff_ne.2 hz
          clear HS hz
          go_wp2_with fail
          go_roundw
          case rel => exact ⟨k + 1, by omega, by go_num, by rw [HS2.out], by (repeat (first | (with_reducible exact Below.refl _ _) | (with_reducible assumption) | (with_reducible apply bl_alloc) | (with_reducible apply bl_drewN) | (with_reducible apply bl_drew) | (with_reducible refine bl_set ?_ (by first | (simp; done) | (simp; omega)) _) | (with_reducible refine bl_call ?_ (by assumption))))⟩
          case measure => simp [intOf]; omega
      · obtain rfl : k = n := by omega
        have HR2 := Lib.hid (HR.out.trans HCC.out)
        go_wp2_with fail
        go_ret
        exact gives_eq (by rw [HR2.out]; rfl) (by (repeat (first | (with_reducible exact Below.refl _ _) | (with_reducible assumption) | (with_reducible apply bl_alloc) | (with_reducible apply bl_drewN) | (with_reducible apply bl_drew) | (with_reducible refine bl_set ?_ (by first | (simp; done) | (simp; omega)) _) | (with_reducible refine bl_call ?_ (by assumption)))))
  · have HR : Hid (linL l = 0) := Lib.hid (by unfold linL; rw [if_neg h0])
    obtain ⟨v, hv⟩ : ∃ v, chkL l = v := ⟨_, rfl⟩
    rw [hv] at I1 h0
    have q : (v == 0) = false := beq_eq_false_iff_ne.2 h0
    have q2 : (v != 0) = true := by simp only [bne, q]; rfl
    clear hv
    go_enter Tryd.func15, Tryd.ntmps15
    go_wp2_with fail
    refine I1.mono ?_
    rintro e w1 ⟨rfl, hb1⟩
    go_wp2_with fail
    go_ret
    exact gives_eq (by rw [HR.out]; rfl) (by (repeat (first | (with_reducible exact Below.refl _ _) | (with_reducible assumption) | (with_reducible apply bl_alloc) | (with_reducible apply bl_drewN) | (with_reducible apply bl_drew) | (with_reducible refine bl_set ?_ (by first | (simp; done) | (simp; omega)) _) | (with_reducible refine bl_call ?_ (by assumption)))))
end Go.Proofs.YtilnojcbebchdaaDoor.Lx
