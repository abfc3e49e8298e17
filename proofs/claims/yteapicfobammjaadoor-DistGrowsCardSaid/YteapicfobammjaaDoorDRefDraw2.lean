/-
  The reference's Draw at every distribution and stream.
-/
import Derived.Test.YteapicfobammjaaDoorDRefDraw
namespace Go.Proofs.YteapicfobammjaaDoor.Di
open Go.RowKit
open St (nextU errS tri nextU_lt)
set_option maxHeartbeats 4000000
theorem rnext_at (k P : Nat) (b : Bool) (hP : P < 1000000000000) (w : World) : Calls Tryd.prog 81 #[.agg #[.int .u64 (k : Nat), .int .i64 (P : Nat), .bool b]] w (Gives (.tuple #[.int .u64 (nextU k P b : Nat), .agg #[.int .u64 (k : Nat), .int .i64 ((P : Int) + 1), .bool b]]) w) := St.rnext_yes k P b hP w
theorem rscheck_at (k : Nat) (p : Int) (b : Bool) (w : World) : Calls Tryd.prog 80 #[.agg #[.int .u64 k, .int .i64 p, .bool b]] w (Gives (.int .i64 (errS p)) w) := St.rcheck_any k p b w
theorem rdraw_any (op a b n : Int) (p : Option Addr) (lv c : Nat) (q : Option Addr) (lw f : Nat) (V W : Nat → Int) (k : Nat) (pos : Int) (anti : Bool) (w : World) (hV : Row w p lv V) (hW : Row w q lw W) :
    Calls Tryd.prog 37 #[.agg #[.int .i64 op, .int .i64 a, .int .i64 b, .int .i64 n, .slice p lv c, .slice q lw f], .agg #[.int .u64 (k : Nat), .int .i64 pos, .bool anti]] w (Gives (drwR (errD op a b n lv lw V W) op a b n lv V W k pos anti) w) := by
  have CH := Lib.hid fun (w2 : World) (hb : Below w.heap.size w w2) => rcheck_any op a b n p lv c q lw f V W w2 (hV.on hb) (hW.on hb)
  by_cases hE : errD op a b n lv lw V W = 0
  · have hA := acc_of hE
    have AT := fun u (hu : u < 18446744073709551616) (w2 : World) (hb : Below w.heap.size w w2) => rat_any op a b n p lv c q lw f V W u hu w2 (hV.on hb) (hW.on hb)
    rw [hE] at CH ⊢
    simp only [hE] at AT
    have SC := Lib.hid (rscheck_at k pos anti)
    rcases errS_01 pos with ⟨h0, p0, p1⟩ | h2
    · rw [h0] at SC
      have BD : Hid (∀ Q, 0 ≤ valF op a b lv V W k anti Q ∧ valF op a b lv V W k anti Q ≤ 1000000000) := Lib.hid fun Q => by have := sgl_bd (nextU_lt k Q anti) hA; exact ⟨this.1, this.2.1⟩
      by_cases hop : op = 4
      · subst hop
        rcases hA with ⟨h, -⟩ | ⟨h, -⟩ | ⟨h, -⟩ | ⟨-, g1, g2, g3, g4, g5⟩ | ⟨h, -⟩
        any_goals exact absurd h (by decide)
        obtain ⟨T, rfl⟩ : ∃ T : Nat, n = (T : Int) := ⟨n.toNat, by omega⟩
        by_cases hl : 1000000000000 - (T : Int) < pos
        · have e : drwE 0 pos 4 (T : Int) = 2 := by unfold drwE; rw [if_pos rfl, if_pos h0, show tkV 4 (T : Int) = (T : Int) from rfl, if_pos hl]
          rw [drw_bad e (by decide)]
          exact rdraw_no3b a b T p lv c q lw f k pos anti w (by rw [IntKind.wrap_i64]; omega) (decide_eq_true hl) CH SC
        · obtain ⟨P, rfl⟩ : ∃ P : Nat, pos = (P : Int) := ⟨pos.toNat, by omega⟩
          have e : drwE 0 (P : Int) 4 (T : Int) = 0 := by unfold drwE; rw [if_pos rfl, if_pos h0, show tkV 4 (T : Int) = (T : Int) from rfl, if_neg hl]
          rw [drw_good e (show tkV 4 (T : Int) = (T : Int) from rfl)]
          exact rdraw_yes4 a b T p lv c q lw f T k P anti _ (fun Q => nextU k Q anti) w (by omega) (by omega) rfl (by omega) (by rw [IntKind.wrap_i64]; omega) (decide_eq_false hl) CH SC
            (Lib.hid fun Q hQ w2 => rnext_at k Q anti hQ w2) (Lib.hid fun Q w2 => runi_any a b _ (nextU_lt k Q anti) g3 g4 (by omega) w2) BD
      · have ht : tkV op n = ((1 : Nat) : Int) := by unfold tkV; rw [if_neg hop]; rfl
        have h4 : (op == 4) = false := by rw [beq_eq_false_iff_ne]; exact hop
        by_cases hl : 999999999999 < pos
        · have e : drwE 0 pos op n = 2 := by unfold drwE; rw [if_pos rfl, if_pos h0, if_pos (by rw [ht]; omega)]
          rw [drw_bad e (by decide)]
          exact rdraw_no3a op a b n p lv c q lw f h4 k pos anti w (decide_eq_true hl) CH SC
        · obtain ⟨P, rfl⟩ : ∃ P : Nat, pos = (P : Int) := ⟨pos.toNat, by omega⟩
          have e : drwE 0 (P : Int) op n = 0 := by unfold drwE; rw [if_pos rfl, if_pos h0, if_neg (by rw [ht]; omega)]
          rw [drw_good e ht]
          have e1 : atB 0 op = true := by unfold atB; exact decide_eq_true ⟨rfl, hop⟩
          exact rdraw_yes1 op a b n p lv c q lw f h4 k P anti _ (fun Q => nextU k Q anti) true w (by omega) (decide_eq_false hl) CH SC
            (Lib.hid fun Q hQ w2 => rnext_at k Q anti hQ w2) (Lib.hid fun Q w2 hb => by
              have h := AT (nextU k Q anti) (nextU_lt k Q anti) w2 hb
              unfold atV at h
              rw [e1, if_pos rfl] at h
              exact h) BD
    · rw [h2] at SC
      have e : drwE 0 pos op n = 2 := by unfold drwE; rw [if_pos rfl, h2, if_neg (by decide)]
      rw [drw_bad e (by decide)]
      exact rdraw_no2 op a b n p lv c q lw f 2 (by decide) k pos anti w CH SC
  · have e : drwE (errD op a b n lv lw V W) pos op n = errD op a b n lv lw V W := by unfold drwE; rw [if_neg hE]
    rw [drw_bad e hE]
    exact rdraw_no1 op a b n p lv c q lw f _ (by rw [beq_eq_false_iff_ne]; exact hE) (by rw [bne_iff_ne]; exact hE) k pos anti w CH
end Go.Proofs.YteapicfobammjaaDoor.Di
