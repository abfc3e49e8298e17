/-
  The contracts of the reference's Lines and Text.
-/
import Derived.Test.YtilnojcbebchdaaDoorLxText
import Derived.Test.YtilnojcbebchdaaDoorLxRChk2
import Derived.Test.YtilnojcbebchdaaDoorRef
namespace Go.Proofs.YtilnojcbebchdaaDoor.Lx
open Go.RowKit
set_option maxHeartbeats 4000000
set_option linter.unusedVariables false
set_option linter.unusedSimpArgs false
set_option maxRecDepth 100000 in
theorem rlines_any {p : Option Addr} {n c : Nat} {l : List Tk} (w : World) (hT : Toks w p n l) (hF : Fits l) : Calls Tryd.prog 19 #[.slice p n c] w (Gives (.int .i64 ((linL l : Nat) : Int)) w) := by
  have I1 := rcheck_any (c := c) w hT hF
  have hn : (n : Int) ≤ 9223372036854775807 := by have := hT.2.1; omega
  have HL := Lib.hid hT.1
  have HT := Lib.hid hT
  have HV : Hid (linL l = if chkL l = 0 then cntL l l.length else 0) := Lib.hid rfl
  clear hT hF
  go_enter Tryd.func19, Tryd.ntmps19
  go_wp2_with fail
  go_loop [3, 4] (fun q i => ∃ k : Nat, k ≤ n ∧ i = .int .i64 (k : Nat) ∧ q = .int .i64 ((cntL l k : Nat) : Int)) (fun q i => n - (intOf i).toNat)
  case atStart => exact ⟨0, Nat.zero_le _, rfl, rfl⟩
  case round =>
    obtain ⟨k, hk, rfl, rfl⟩ := hrel
    have d1 : (0 : Int) ≤ (k : Int) := by omega
    have hcl := cnt_le l k
    have HS : Hid (cntL l (k + 1) = if (l.getD k ⟨4, mt, 0, 0⟩).k = 4 then cntL l k + 1 else cntL l k) := Lib.hid rfl
    obtain ⟨C, hC⟩ : ∃ C, cntL l k = C := ⟨_, rfl⟩
    rw [hC] at hcl HS ⊢
    have HCC := Lib.hid hC
    clear hC
    rcases Nat.lt_or_ge k n with h | h
    · have d2 : (k : Int) < (n : Int) := by omega
      obtain ⟨b, o, hp, hb, hc⟩ := toks_at HT.out h
      subst hp
      have hkl : k < l.length := by rw [HL.out]; exact h
      have hx := hc k hkl
      rw [getD_at hkl] at HS
      obtain ⟨X, hX⟩ : ∃ X, l[k] = X := ⟨_, rfl⟩
      rw [hX] at hx HS
      obtain ⟨e1, e2, e3, e4⟩ := hx
      clear hc hX I1
      by_cases hz : X.k = 4
      · have HS2 := Lib.hid (HS.out.trans (if_pos hz))
        rw [hz] at e1
        clear HS hz
        go_wp2_with fail
        go_round
        case rel => exact ⟨k + 1, by omega, by go_num, by rw [HS2.out]; go_num⟩
        case measure => simp [intOf]; omega
      · have HS2 := Lib.hid (HS.out.trans (if_neg hz))
        have q : (X.k == 4) = false := beq_eq_false_iff_ne.2 hz
        clear HS hz
        go_wp2_with fail
        go_round
        case rel => exact ⟨k + 1, by omega, by go_num, by rw [HS2.out]⟩
        case measure => simp [intOf]; omega
    · obtain rfl : k = n := by omega
      obtain ⟨v, hv⟩ : ∃ v, chkL l = v := ⟨_, rfl⟩
      rw [hv] at I1
      by_cases hz : v = 0
      · subst hz
        have HR : Hid (linL l = C) := Lib.hid (by rw [HV.out, if_pos hv, HL.out]; exact HCC.out)
        clear hv HV
        go_wp2_with fail
        refine I1.mono ?_
        rintro e w1 ⟨rfl, hb1⟩
        go_wp2_with fail
        go_ret
        exact gives_eq (by rw [HR.out]; rfl) hb1
      · have HR : Hid (linL l = 0) := Lib.hid (by rw [HV.out, if_neg (by rw [hv]; exact hz)])
        have q : (v == 0) = false := beq_eq_false_iff_ne.2 hz
        have q2 : (v != 0) = true := by simp only [bne, q]; rfl
        clear hv HV
        go_wp2_with fail
        refine I1.mono ?_
        rintro e w1 ⟨rfl, hb1⟩
        go_wp2_with fail
        go_ret
        exact gives_eq (by rw [HR.out]; rfl) hb1
set_option maxRecDepth 100000 in
theorem rtext_chk {p : Option Addr} {n c : Nat} {v : Int} {V : Value} (w : World) (h0 : ¬ v = 0) (I1 : Calls Tryd.prog 18 #[.slice p n c] w (Gives (.int .i64 v) w)) (HR : Hid (V = .tuple #[.string mt, .int .i64 v])) : Calls Tryd.prog 17 #[.slice p n c] w (Gives V w) := by
  have q : (v == 0) = false := beq_eq_false_iff_ne.2 h0
  have q2 : (v != 0) = true := by simp only [bne, q]; rfl
  go_enter Tryd.func17, Tryd.ntmps17
  go_wp2_with fail
  refine I1.mono ?_
  rintro e w1 ⟨rfl, hb1⟩
  go_wp2_with fail
  go_ret2
  exact gives_eq HR.out hb1
set_option maxRecDepth 100000 in
theorem rtext_far {b o n c m : Nat} {L : Int} {V : Value} (w : World) (hm : n = m + 1) (hn : n ≤ 9223372036854775807) (hb : b < w.heap.size) (eL : w.cell? ⟨b, o + m * 4 + 3, none⟩ = some (.int .i64 L)) (h2 : 20001 < L) (hL2 : L ≤ 9223372036854775807) (I1 : Calls Tryd.prog 18 #[.slice (some ⟨b, o, none⟩) n c] w (Gives (.int .i64 0) w)) (HR : Hid (V = .tuple #[.string mt, .int .i64 6])) : Calls Tryd.prog 17 #[.slice (some ⟨b, o, none⟩) n c] w (Gives V w) := by
  have c1 : (n : Int) - 1 = (m : Int) := by omega
  have c2 : (0 : Int) ≤ (m : Int) := by omega
  have c3 : (m : Int) < (n : Int) := by omega
  have c4 : (n : Int) ≤ 9223372036854775807 := by omega
  have q : decide ((20001 : Int) < L) = true := decide_eq_true (by omega)
  clear hm
  go_enter Tryd.func17, Tryd.ntmps17
  go_wp2_with fail
  refine I1.mono ?_
  rintro e w1 ⟨rfl, hb1⟩
  have eL1 := (hb1.cell (p := ⟨b, o + m * 4 + 3, none⟩) hb).trans eL
  go_wp2_with fail
  go_ret2
  exact gives_eq HR.out hb1
theorem mk_app (a c : List UInt8) : mkS a ++ mkS c = mkS (a ++ c) := bs_inj (by rw [bs_app, bs_mk, bs_mk, bs_mk])
theorem mk_size (a : List UInt8) : (mkS a).size = a.length := by rw [← bs_len, bs_mk]
theorem rep_succ (j : Nat) (c : UInt8) : List.replicate (j + 1) c = List.replicate j c ++ [c] := List.replicate_succ'
theorem wrt_num {x : Tk} (h : x.k = 2) : wrt x = num x.n := if_pos h
theorem wrt_text {x : Tk} (h : ¬ x.k = 2) : wrt x = x.t := if_neg h
theorem vis_yes {k : Int} (h1 : ¬ k = 4) (h2 : ¬ k = 0) : visB k = true := by unfold visB; rw [decide_eq_false h1, decide_eq_false h2]; rfl
theorem vis_line : visB 4 = false := by decide
theorem vis_end : visB 0 = false := by decide
theorem gap_inv {f : Bool} {ln : Int} {x : Tk} (h : visB x.k = false) : gap f ln x = false := by unfold gap; rw [h, Bool.and_false, Bool.and_false]
/-- The reference's text at the end of a round. -/
theorem step_no {l : List Tk} {k d : Nat} {x : Tk} {W : ByteArray} (hW : wrt x = W) (h : tx l (k + 1) = tx l k ++ List.replicate d 10 ++ bs (wrt x)) : mkS (tx l k ++ List.replicate d 10) ++ W = mkS (tx l (k + 1)) := by
  rw [← hW, ← mk_bs (wrt x), mk_app, h]
theorem step_yes {l : List Tk} {k d : Nat} {x : Tk} {W : ByteArray} (hW : wrt x = W) (h : tx l (k + 1) = tx l k ++ List.replicate d 10 ++ [32] ++ bs (wrt x)) : mkS (tx l k ++ List.replicate d 10) ++ ⟨#[32]⟩ ++ W = mkS (tx l (k + 1)) := by
  rw [← hW, ← mk_bs (wrt x), show (⟨#[32]⟩ : ByteArray) = mkS [32] from rfl, mk_app, mk_app, h]
end Go.Proofs.YtilnojcbebchdaaDoor.Lx
