/-
  The contract of the reference's Check.
-/
import Derived.Test.YtilnojcbebchdaaDoorLxChk2
import Derived.Test.YtilnojcbebchdaaDoorLxRForm
namespace Go.Proofs.YtilnojcbebchdaaDoor.Lx
open Go.RowKit
set_option maxHeartbeats 8000000
set_option linter.unusedVariables false
/-- A block with a token in it that may be written. -/
def bx (w' : World) (g : Nat) (x : Tk) : Prop := w'.cell? ⟨g, 0, none⟩ = some (.int .i64 x.k) ∧ w'.cell? ⟨g, 1, none⟩ = some (.string x.t) ∧ w'.cell? ⟨g, 2, none⟩ = some (.int .i64 x.n) ∧ w'.cell? ⟨g, 3, none⟩ = some (.int .i64 x.l) ∧ (∀ o, w'.frozen? ⟨g, o, none⟩ = false) ∧ g < w'.heap.size
theorem bx.new {w : World} {x : Tk} : bx (w.alloc (.cells #[.int .i64 x.k, .string x.t, .int .i64 x.n, .int .i64 x.l] 31)) w.heap.size x := by
  have h := new4 (w := w) (x := x) (t := 31)
  exact ⟨h.1, h.2.1, h.2.2.1, h.2.2.2, fun o => frozen_of_row _ _ o _ _ (heap_alloc_new w _), by simp⟩
theorem bx.on {w w2 : World} {g : Nat} {x : Tk} (hb : Below w.heap.size w w2) (h : bx w g x) : bx w2 g x := by
  obtain ⟨h0, h1, h2, h3, h4, h5⟩ := h
  exact ⟨(hb.cell (p := ⟨g, 0, none⟩) h5).trans h0, (hb.cell (p := ⟨g, 1, none⟩) h5).trans h1, (hb.cell (p := ⟨g, 2, none⟩) h5).trans h2, (hb.cell (p := ⟨g, 3, none⟩) h5).trans h3, fun o => (hb.frozen (p := ⟨g, o, none⟩) h5).trans (h4 o), Nat.lt_of_lt_of_le h5 hb.size⟩
theorem bx.set4 {w : World} {g : Nat} {y x : Tk} (h : bx w g y) : bx ((((w.setCell ⟨g, 0, none⟩ (.int .i64 x.k)).setCell ⟨g, 1, none⟩ (.string x.t)).setCell ⟨g, 2, none⟩ (.int .i64 x.n)).setCell ⟨g, 3, none⟩ (.int .i64 x.l)) g x := by
  obtain ⟨h0, h1, h2, h3, h4, h5⟩ := h
  refine ⟨?_, ?_, ?_, ?_, fun o => ?_, ?_⟩
  · go_simp
  · go_simp
  · go_simp
  · go_simp
  · go_simp
  · simp [World.setCell]; exact h5
/-- The lines of what is accepted so far. -/
theorem line_pos {l : List Tk} : ∀ k, k ≤ l.length → orF (chkK l) k = 0 → ∀ j, j < k → 1 ≤ (l.getD j ⟨4, mt, 0, 0⟩).l := by
  intro k hk h j hj
  have hall := orF_iff.1 h
  induction j with
  | zero =>
    have h0 := hall 0 hj
    unfold chkK chkA at h0
    split at h0
    · cases h0
    · split at h0
      · cases h0
      · split at h0
        · cases h0
        · rename_i g
          unfold orB at g
          simpa using g
  | succ m ih =>
    have ih' := ih (by omega)
    have h0 := hall (m + 1) hj
    unfold chkK chkA at h0
    rw [bef_succ (by omega), ← getD_at (by omega)] at h0
    split at h0
    · cases h0
    · split at h0
      · cases h0
      · split at h0
        · cases h0
        · rename_i g
          unfold orB at g
          rw [decide_eq_false (by omega), if_neg (by decide)] at g
          by_cases g1 : (l.getD m ⟨4, mt, 0, 0⟩).k = 4
          · rw [if_neg (fun e => e g1)] at g
            split at g
            · simp only [decide_eq_false_iff_not, Int.not_le, Int.not_lt] at g; omega
            · simp only [decide_eq_false_iff_not, Int.not_le, Int.not_lt] at g; omega
          · rw [if_pos g1] at g
            simp only [decide_eq_false_iff_not, Classical.not_not] at g
            omega
theorem bef_line {l : List Tk} {k : Nat} (hk : k ≤ l.length) (h : orF (chkK l) k = 0) : (k = 0 ∧ (bef l k).k = 4 ∧ (bef l k).l = 0) ∨ (¬ k = 0 ∧ 1 ≤ (bef l k).l) := by
  cases k with
  | zero => exact .inl ⟨rfl, rfl, rfl⟩
  | succ j =>
    refine .inr ⟨by omega, ?_⟩
    rw [bef_succ (by omega), ← getD_at (by omega)]
    exact line_pos (j + 1) hk h j (by omega)
/-- The order of lines as the reference asks for it. -/
theorem or_ref {kz : Bool} {k : Nat} {bk bl xk xl : Int} (hz : kz = decide (k = 0)) (h : (k = 0 ∧ bk = 4 ∧ bl = 0) ∨ (¬ k = 0 ∧ 1 ≤ bl)) : orB kz bk bl xk xl = !decide (xl < 1 ∨ (¬ bk = 4 ∧ ¬ xl = bl) ∨ xl < bl ∨ (bk = 4 ∧ ¬ xk = 0 ∧ xl = bl)) := by
  subst hz
  unfold orB
  rcases h with ⟨h1, h2, h3⟩ | ⟨h1, h2⟩
  · rw [decide_eq_true h1, if_pos rfl]
    rw [Bool.eq_iff_iff]
    simp only [decide_eq_true_eq, Bool.not_eq_true', decide_eq_false_iff_not]
    omega
  · rw [decide_eq_false h1, if_neg (by decide)]
    by_cases g1 : bk = 4
    · rw [if_neg (fun e => e g1)]
      by_cases g2 : xk = 0
      · rw [if_pos g2, Bool.eq_iff_iff]
        simp only [decide_eq_true_eq, Bool.not_eq_true', decide_eq_false_iff_not]
        omega
      · rw [if_neg g2, Bool.eq_iff_iff]
        simp only [decide_eq_true_eq, Bool.not_eq_true', decide_eq_false_iff_not]
        omega
    · rw [if_pos g1, Bool.eq_iff_iff]
      simp only [decide_eq_true_eq, Bool.not_eq_true', decide_eq_false_iff_not]
      omega
/-- What the reference finds at a formed token. -/
def refA (bk bl xk xl : Int) (last : Bool) : Int :=
  if (xk = 4 ∧ bk = 4) ∨ (xk = 0 ∧ (last = false ∨ ¬ bk = 4)) then 8 else if xl < 1 ∨ (¬ bk = 4 ∧ ¬ xl = bl) ∨ xl < bl ∨ (bk = 4 ∧ ¬ xk = 0 ∧ xl = bl) then 12 else 0
theorem ite_nd (Q : Prop) [Decidable Q] (a b : Int) : (if (!decide Q) = false then a else b) = if Q then a else b := by by_cases h : Q <;> simp [h]
theorem chk_ref {l : List Tk} {k : Nat} (hk : k < l.length) (h : orF (chkK l) k = 0) (g0 : ¬ (l[k]).k < 0) (g1 : ¬ 4 < (l[k]).k) (hf : fmB l[k] = true) : chkK l k = refA (bef l k).k (bef l k).l (l[k]).k (l[k]).l (decide (k + 1 = l.length)) := by
  have hb := bef_line (by omega) h
  unfold chkK chkA
  rw [getD_at hk, if_neg (by omega), hf, or_ref rfl hb]
  rw [ite_nd]
  unfold refA plB
  generalize (bef l k).k = bk at *
  generalize (bef l k).l = bl at *
  generalize (l[k]).k = xk at *
  generalize (l[k]).l = xl at *
  generalize decide (k + 1 = l.length) = last at *
  by_cases a1 : xk = 4
  · subst a1
    rw [if_pos rfl]
    by_cases a2 : bk = 4
    · rw [decide_eq_true a2, if_pos (by decide), if_pos (.inl ⟨rfl, a2⟩)]
    · rw [decide_eq_false a2, if_neg (by decide), if_neg (c := _ ∨ (((4 : Int) = 0) ∧ _)) (by omega)]
  · rw [if_neg a1]
    by_cases a3 : xk = 0
    · rw [if_pos a3]
      by_cases a2 : bk = 4
      · rw [decide_eq_true a2]
        cases last with
        | true => rw [if_neg (by decide), if_neg (c := _ ∨ (xk = 0 ∧ _)) (by rintro (⟨e, -⟩ | ⟨-, e | e⟩); exact a1 e; cases e; exact e a2)]
        | false => rw [if_pos (by decide), if_pos (.inr ⟨a3, .inl rfl⟩)]
      · rw [decide_eq_false a2, if_pos (by simp), if_pos (.inr ⟨a3, .inr a2⟩)]
    · rw [if_neg a3, if_neg (by decide), if_neg (c := _ ∨ (xk = 0 ∧ _)) (by rintro (⟨e, -⟩ | ⟨e, -⟩); exact a1 e; exact a3 e)]
end Go.Proofs.YtilnojcbebchdaaDoor.Lx
