/-
  The text of a list of tokens; the contracts of visible and written.
-/
import Derived.Test.YtilnojcbebchdaaDoorLxChk2
import Derived.Test.YtilnojcbebchdaaDoorLxRChk
namespace Go.Proofs.YtilnojcbebchdaaDoor.Lx
open Go.RowKit
set_option maxHeartbeats 2000000
set_option linter.unusedVariables false
/-- The bytes of a token. -/
def wrt (x : Tk) : ByteArray := if x.k = 2 then num x.n else x.t
def visB (k : Int) : Bool := !decide (k = 4) && !decide (k = 0)
/-- What a token adds to the text: line feeds, a blank, its bytes. -/
def gap (f : Bool) (ln : Int) (x : Tk) : Bool := !f && (decide (x.l = ln) && visB x.k)
def pcs (f : Bool) (ln : Int) (x : Tk) : List UInt8 := List.replicate (x.l - ln).toNat 10 ++ ((if gap f ln x = true then [32] else []) ++ bs (wrt x))
def lnB (l : List Tk) (k : Nat) : Int := if k = 0 then 1 else (l.getD (k - 1) ⟨4, mt, 0, 0⟩).l
def tx (l : List Tk) : Nat → List UInt8
  | 0 => []
  | k + 1 => tx l k ++ pcs (decide (k = 0)) (lnB l k) (l.getD k ⟨4, mt, 0, 0⟩)
theorem tx_mono {l : List Tk} {j k : Nat} (h : j ≤ k) : (tx l j).length ≤ (tx l k).length := by
  induction k with
  | zero => obtain rfl : j = 0 := by omega
            exact Nat.le_refl _
  | succ m ih =>
    by_cases e : j = m + 1
    · subst e; exact Nat.le_refl _
    · have := ih (by omega)
      show _ ≤ (tx l m ++ _).length
      rw [List.length_append]
      omega
/-- What Text returns. -/
def txtE (l : List Tk) : Int := if chkL l = 0 then (if 20001 < (bef l l.length).l ∨ 20000 < (tx l l.length).length then 6 else 0) else chkL l
def txtS (l : List Tk) : ByteArray := if txtE l = 0 then mkS (tx l l.length) else mt
def txtV (l : List Tk) : Value := .tuple #[.string (txtS l), .int .i64 (txtE l)]
theorem txt_chk {l : List Tk} {v : Int} (h : chkL l = v) (hv : ¬ v = 0) : txtV l = .tuple #[.string mt, .int .i64 v] := by
  have e : txtE l = v := by unfold txtE; rw [if_neg (by rw [h]; exact hv), h]
  unfold txtV txtS
  rw [e, if_neg hv]
theorem txt_six {l : List Tk} (h : chkL l = 0) (g : 20001 < (bef l l.length).l ∨ 20000 < (tx l l.length).length) : txtV l = .tuple #[.string mt, .int .i64 6] := by
  have e : txtE l = 6 := by unfold txtE; rw [if_pos h, if_pos g]
  unfold txtV txtS
  rw [e, if_neg (by decide)]
theorem txt_good {l : List Tk} (h : chkL l = 0) (g1 : ¬ 20001 < (bef l l.length).l) (g2 : ¬ 20000 < (tx l l.length).length) : txtV l = .tuple #[.string (mkS (tx l l.length)), .int .i64 0] := by
  have e : txtE l = 0 := by unfold txtE; rw [if_pos h, if_neg (by omega)]
  unfold txtV txtS
  rw [e, if_pos rfl]
theorem chk_all {l : List Tk} (h : chkL l = 0) : orF (chkK l) l.length = 0 ∧ (bef l l.length).k = 0 ∧ 0 < l.length := by
  unfold chkL at h
  by_cases g : orF (chkK l) l.length = 0
  · rw [if_pos g] at h
    by_cases g2 : (bef l l.length).k = 0
    · refine ⟨g, g2, ?_⟩
      rcases Nat.eq_zero_or_pos l.length with e | e
      · rw [e] at g2; cases g2
      · exact e
    · rw [if_neg g2] at h; cases h
  · rw [if_neg g] at h; exact absurd h g
/-- What is known of each token of a valid list. -/
theorem chk_parts {l : List Tk} (h : orF (chkK l) l.length = 0) {k : Nat} (hk : k < l.length) : 0 ≤ (l[k]).k ∧ (l[k]).k ≤ 4 ∧ fmB l[k] = true ∧ plB (bef l k).k (l[k]).k (decide (k + 1 = l.length)) = true ∧ orB (decide (k = 0)) (bef l k).k (bef l k).l (l[k]).k (l[k]).l = true := by
  have h0 := orF_iff.1 h k hk
  unfold chkK chkA at h0
  rw [getD_at hk] at h0
  split at h0
  · cases h0
  · rename_i g0
    split at h0
    · cases h0
    · rename_i g1
      split at h0
      · cases h0
      · rename_i g2
        simp only [Bool.not_eq_false, Bool.and_eq_true] at g1 g2
        exact ⟨by omega, by omega, g1.1, g1.2, g2⟩
theorem fm_num {x : Tk} (h : fmB x = true) (hk : x.k = 2) : 0 ≤ x.n ∧ x.n ≤ 1000000000000 := by
  unfold fmB at h
  rw [if_neg (by omega), if_pos hk] at h
  simp only [Bool.and_eq_true, decide_eq_true_eq] at h
  exact h.2
theorem lnB_succ {l : List Tk} {j : Nat} (h : j < l.length) : lnB l (j + 1) = (l[j]).l := by
  unfold lnB
  rw [if_neg (by omega), Nat.add_sub_cancel, getD_at h]
theorem line_step {l : List Tk} (h : orF (chkK l) l.length = 0) {k : Nat} (hk : k < l.length) : 1 ≤ lnB l k ∧ lnB l k ≤ (l[k]).l := by
  obtain ⟨-, -, -, -, g⟩ := chk_parts h hk
  unfold orB at g
  cases k with
  | zero =>
    simp only [decide_true, if_true, decide_eq_true_eq] at g
    exact ⟨by show (1 : Int) ≤ 1; omega, g⟩
  | succ j =>
    have h1 := line_pos l.length (Nat.le_refl _) h j (by omega)
    rw [getD_at (by omega)] at h1
    rw [bef_succ (by omega), decide_eq_false (by omega), if_neg (by decide)] at g
    rw [lnB_succ (by omega)]
    refine ⟨h1, ?_⟩
    split at g
    · simp only [decide_eq_true_eq] at g; omega
    · split at g
      · simp only [decide_eq_true_eq] at g; omega
      · simp only [decide_eq_true_eq] at g; omega
theorem line_mono {l : List Tk} (h : orF (chkK l) l.length = 0) {j k : Nat} (hjk : j ≤ k) (hk : k ≤ l.length) : lnB l j ≤ lnB l k := by
  induction k with
  | zero => obtain rfl : j = 0 := by omega
            exact Int.le_refl _
  | succ m ih =>
    by_cases e : j = m + 1
    · subst e; exact Int.le_refl _
    · have := ih (by omega) (by omega)
      have := (line_step h (k := m) (by omega)).2
      rw [lnB_succ (by omega)]
      omega
theorem lnB_last {l : List Tk} (h : 0 < l.length) : lnB l l.length = (bef l l.length).l := by
  obtain ⟨m, hm⟩ : ∃ m, l.length = m + 1 := ⟨l.length - 1, by omega⟩
  rw [hm, lnB_succ (by omega), bef_succ (by omega)]
set_option maxRecDepth 100000 in
theorem visible_any (k : Int) (w : World) : Calls Tryd.prog 31 #[.int .i64 k] w fun e w' => e = .returned (.bool (visB k)) ∧ w' = w := by
  unfold visB
  by_cases h : k = 4
  · subst h
    go_enter Tryd.func31, Tryd.ntmps31
    go_wp2_with fail
    go_ret
    exact ⟨rfl, rfl⟩
  · have q : (k == 4) = false := beq_eq_false_iff_ne.2 h
    have q2 : (k != 4) = true := by simp only [bne, q]; rfl
    rw [decide_eq_false h]
    by_cases g : k = 0
    · subst g
      go_enter Tryd.func31, Tryd.ntmps31
      go_wp2_with fail
      go_ret
      exact ⟨rfl, rfl⟩
    · have q3 : (k == 0) = false := beq_eq_false_iff_ne.2 g
      have q4 : (k != 0) = true := by simp only [bne, q3]; rfl
      rw [decide_eq_false g]
      go_enter Tryd.func31, Tryd.ntmps31
      go_wp2_with fail
      go_ret
      exact ⟨rfl, rfl⟩
theorem visible_at {k : Int} {b : Bool} (h : visB k = b) (w : World) : Calls Tryd.prog 31 #[.int .i64 k] w fun e w' => e = .returned (.bool b) ∧ w' = w := by rw [← h]; exact visible_any k w
set_option maxRecDepth 100000 in
theorem written_any (x : Tk) (w : World) (hE : Env w) (hn : x.k = 2 → 0 ≤ x.n ∧ x.n ≤ 1000000000000) : Calls Tryd.prog 33 #[.agg #[.int .i64 x.k, .string x.t, .int .i64 x.n, .int .i64 x.l]] w (Gives (.string (wrt x)) w) := by
  obtain ⟨k, t, n, ln⟩ := x
  simp only at hn ⊢
  have HV : Hid (wrt ⟨k, t, n, ln⟩ = if k = 2 then num n else t) := Lib.hid rfl
  by_cases h : k = 2
  · obtain ⟨h0, h1⟩ := hn h
    have HR := Lib.hid (HV.out.trans (if_pos h))
    have hB : Below w.heap.size w (w.alloc (.cells #[.int .i64 k, .string t, .int .i64 n, .int .i64 ln] 31)) := bl_alloc (Below.refl _ _)
    have I1 := text_any n (by omega) (by omega) _ (hE.below hB)
    subst h
    clear HV hn hE
    go_enter Tryd.func33, Tryd.ntmps33
    go_wp2_with fail
    refine I1.mono ?_
    rintro e w1 ⟨rfl, hb1⟩
    go_wp2_with fail
    go_ret
    exact gives_eq (by rw [HR.out]; rfl) (by (repeat (first | (with_reducible exact Below.refl _ _) | (with_reducible assumption) | (with_reducible apply bl_alloc) | (with_reducible apply bl_drewN) | (with_reducible apply bl_drew) | (with_reducible refine bl_set ?_ (by first | (simp; done) | (simp; omega)) _) | (with_reducible refine bl_call ?_ (by assumption)))))
  · have q : (k == 2) = false := beq_eq_false_iff_ne.2 h
    have HR := Lib.hid (HV.out.trans (if_neg h))
    clear HV hn hE
    go_enter Tryd.func33, Tryd.ntmps33
    go_wp2_with fail
    go_ret
    exact gives_eq (by rw [HR.out]; rfl) (by (repeat (first | (with_reducible exact Below.refl _ _) | (with_reducible assumption) | (with_reducible apply bl_alloc) | (with_reducible apply bl_drewN) | (with_reducible apply bl_drew) | (with_reducible refine bl_set ?_ (by first | (simp; done) | (simp; omega)) _) | (with_reducible refine bl_call ?_ (by assumption)))))
end Go.Proofs.YtilnojcbebchdaaDoor.Lx
