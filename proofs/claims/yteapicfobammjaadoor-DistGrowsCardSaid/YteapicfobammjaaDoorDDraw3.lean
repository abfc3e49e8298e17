/-
  Draw at every distribution and stream.
-/
import Derived.Test.YteapicfobammjaaDoorDDraw2
namespace Go.Proofs.YteapicfobammjaaDoor.Di
open Go.RowKit
open St (nextU errS tri nextU_lt okS hasS errS_no errS_yes okS_true)
set_option maxHeartbeats 4000000
def valF (op a b : Int) (lv : Nat) (V W : Nat → Int) (k : Nat) (anti : Bool) (Q : Nat) : Int := sglV op a b lv V W (nextU k Q anti)
def drwE (E pos op n : Int) : Int := if E = 0 then (if errS pos = 0 then (if 1000000000000 - tkV op n < pos then 2 else 0) else errS pos) else E
def drwV (E op a b n : Int) (lv : Nat) (V W : Nat → Int) (k : Nat) (pos : Int) (anti : Bool) : Int := if drwE E pos op n = 0 then drawS (valF op a b lv V W k anti) pos.toNat (tkV op n).toNat else 0
def drwK (e : Int) (k : Nat) : Nat := if e = 0 then k else 0
def drwP (e pos op n : Int) : Int := if e = 0 then pos + tkV op n else 0
def drwA (e : Int) (anti : Bool) : Bool := if e = 0 then anti else false
/-- What Draw answers. -/
def drwR (E op a b n : Int) (lv : Nat) (V W : Nat → Int) (k : Nat) (pos : Int) (anti : Bool) : Value :=
  .tuple #[.int .i64 (drwV E op a b n lv V W k pos anti), .agg #[.int .u64 (drwK (drwE E pos op n) k : Nat), .int .i64 (drwP (drwE E pos op n) pos op n), .bool (drwA (drwE E pos op n) anti)], .int .i64 (drwE E pos op n)]
theorem drw_bad {E op a b n : Int} {lv : Nat} {V W : Nat → Int} {k : Nat} {pos : Int} {anti : Bool} {e : Int} (h : drwE E pos op n = e) (he : e ≠ 0) : drwR E op a b n lv V W k pos anti = .tuple #[.int .i64 0, .agg #[.int .u64 0, .int .i64 0, .bool false], .int .i64 e] := by
  unfold drwR drwV drwK drwP drwA
  rw [h, if_neg he, if_neg he, if_neg he, if_neg he]; rfl
theorem drw_good {E op a b n : Int} {lv : Nat} {V W : Nat → Int} {k P T : Nat} {anti : Bool} (h : drwE E (P : Int) op n = 0) (ht : tkV op n = (T : Int)) : drwR E op a b n lv V W k (P : Int) anti = .tuple #[.int .i64 (drawS (valF op a b lv V W k anti) P T), .agg #[.int .u64 (k : Nat), .int .i64 (P + T : Nat), .bool anti], .int .i64 0] := by
  unfold drwR drwV drwK drwP drwA
  rw [h, if_pos rfl, if_pos rfl, if_pos rfl, if_pos rfl, ht]; rfl
theorem errS_01 (pos : Int) : (errS pos = 0 ∧ 0 ≤ pos ∧ pos ≤ 1000000000000) ∨ errS pos = 2 := by
  cases h : okS pos
  · exact .inr (errS_no h)
  · exact .inl ⟨errS_yes h, okS_true h⟩
theorem next_at (k P : Nat) (b : Bool) (hP : P < 1000000000000) (w : World) : Calls Tryd.prog 79 #[.agg #[.int .u64 (k : Nat), .int .i64 (P : Nat), .bool b]] w (Gives (.tuple #[.int .u64 (nextU k P b : Nat), .agg #[.int .u64 (k : Nat), .int .i64 ((P : Int) + 1), .bool b]]) w) := St.next_yes k P b hP w
theorem scheck_at (k : Nat) (p : Int) (b : Bool) (w : World) : Calls Tryd.prog 77 #[.agg #[.int .u64 k, .int .i64 p, .bool b]] w (Gives (.int .i64 (errS p)) w) := St.check_any k p b w
theorem draw_any (op a b n : Int) (p : Option Addr) (lv c : Nat) (q : Option Addr) (lw f : Nat) (V W : Nat → Int) (k : Nat) (pos : Int) (anti : Bool) (w : World) (hV : Row w p lv V) (hW : Row w q lw W) :
    Calls Tryd.prog 36 #[.agg #[.int .i64 op, .int .i64 a, .int .i64 b, .int .i64 n, .slice p lv c, .slice q lw f], .agg #[.int .u64 (k : Nat), .int .i64 pos, .bool anti]] w (Gives (drwR (errD op a b n lv lw V W) op a b n lv V W k pos anti) w) := by
  have CH := Lib.hid fun (w2 : World) (hb : Below w.heap.size w w2) => check_any op a b n p lv c q lw f V W w2 (hV.on hb) (hW.on hb)
  by_cases hE : errD op a b n lv lw V W = 0
  · have hA := acc_of hE
    rw [hE] at CH ⊢
    have SC := Lib.hid (scheck_at k pos anti)
    rcases errS_01 pos with ⟨h0, p0, p1⟩ | h2
    · rw [h0] at SC
      have ht := tk_bd hA
      obtain ⟨T, eT⟩ : ∃ T : Nat, tkV op n = (T : Int) := ⟨(tkV op n).toNat, by omega⟩
      have TK := Lib.hid (taken_any op a b n p lv c q lw f)
      rw [eT] at TK ht
      by_cases hl : 1000000000000 - tkV op n < pos
      · have e : drwE 0 pos op n = 2 := by unfold drwE; rw [if_pos rfl, if_pos h0, if_pos hl]
        rw [drw_bad e (by decide)]
        rw [eT] at hl
        exact draw_no3 op a b n p lv c q lw f T k pos anti w (by rw [IntKind.wrap_i64]; omega) (decide_eq_true hl) CH SC TK
      · obtain ⟨P, rfl⟩ : ∃ P : Nat, pos = (P : Int) := ⟨pos.toNat, by omega⟩
        have e : drwE 0 (P : Int) op n = 0 := by unfold drwE; rw [if_pos rfl, if_pos h0, if_neg hl]
        rw [drw_good e eT]
        rw [eT] at hl
        exact draw_yes op a b n p lv c q lw f T k P anti (valF op a b lv V W k anti) (fun Q => nextU k Q anti) w (by omega) (by omega) (by omega) (by rw [IntKind.wrap_i64]; omega) (decide_eq_false hl) CH SC TK
          (Lib.hid fun Q hQ w2 => next_at k Q anti hQ w2) (Lib.hid fun Q w2 hb => single_any op a b n p lv c q lw f V W _ (nextU_lt k Q anti) w2 (hV.on hb) (hW.on hb) hA)
          (Lib.hid fun Q => by have := sgl_bd (nextU_lt k Q anti) hA; exact ⟨this.1, this.2.1⟩)
    · rw [h2] at SC
      have e : drwE 0 pos op n = 2 := by unfold drwE; rw [if_pos rfl, h2, if_neg (by decide)]
      rw [drw_bad e (by decide)]
      exact draw_no2 op a b n p lv c q lw f 2 (by decide) k pos anti w CH SC
  · have e : drwE (errD op a b n lv lw V W) pos op n = errD op a b n lv lw V W := by unfold drwE; rw [if_neg hE]
    rw [drw_bad e hE]
    exact draw_no1 op a b n p lv c q lw f _ (by rw [bne_iff_ne]; exact hE) k pos anti w CH
end Go.Proofs.YteapicfobammjaaDoor.Di
