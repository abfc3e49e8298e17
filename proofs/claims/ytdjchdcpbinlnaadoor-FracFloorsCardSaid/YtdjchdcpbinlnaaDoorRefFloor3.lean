/-
  The contract of the reference's Floor at every argument.
-/
import Derived.Test.YtdjchdcpbinlnaaDoorRefFloor2
namespace Go.Proofs.YtdjchdcpbinlnaaDoor
open Go.RowKit
set_option maxHeartbeats 1000000
theorem rfloor_any (a b k : Int) (n0 : -9223372036854775808 ≤ a) (n1 : a ≤ 9223372036854775807) (d0 : -9223372036854775808 ≤ b) (d1 : b ≤ 9223372036854775807) (k0 : -9223372036854775808 ≤ k) (k1 : k ≤ 9223372036854775807) (w : World) :
    Calls Tryd.prog 31 #[.agg #[.int .i64 a, .int .i64 b], .int .i64 k] w (Gives (.tuple #[.int .i64 (floorR a b k), .bool (floorB a b k)]) w) := by
  by_cases hbad : okF a b = false ∨ k < 0 ∨ 1000000000000 < k
  · exact rfloor_bad a b k n0 n1 d0 d1 k0 k1 hbad w
  have h1 : okF a b = true := by
    cases e : okF a b
    · exact absurd (Or.inl e) hbad
    · rfl
  have hk0 : 0 ≤ k := by
    rcases Int.lt_or_le k 0 with h | h
    · exact absurd (Or.inr (Or.inl h)) hbad
    · exact h
  have hk1 : k ≤ 1000000000000 := by
    rcases Int.lt_or_le 1000000000000 k with h | h
    · exact absurd (Or.inr (Or.inr h)) hbad
    · exact h
  obtain ⟨p1, p2, p3, p4, -⟩ := okF_true h1
  have sa : absN a ≤ 4611686018427387904 := by unfold absN; omega
  have sk : absN k ≤ 1000000000000 := by unfold absN; omega
  have sb : absN b ≤ 1000000000000000 := by unfold absN; omega
  have pb : 0 < absN b := by unfold absN; omega
  have eb : ((absN b : Nat) : Int) = b := by unfold absN; omega
  have x1 : absN a * absN k ≤ 4611686018427387904 * 1000000000000 := Nat.mul_le_mul sa sk
  have fz := floorZ_parts (n := a) (k := k) (d := absN b) pb hk0
  rw [eb] at fz
  change floorZ a b k = if a < 0 then -(rfl' a (absN a * absN k / absN b) (absN a * absN k % absN b) : Int) else (rfl' a (absN a * absN k / absN b) (absN a * absN k % absN b) : Int) at fz
  have hb2 : floorB a b k = decide (-4611686018427387904 ≤ floorZ a b k ∧ floorZ a b k ≤ 4611686018427387904) := by
    unfold floorB
    rw [h1, Bool.true_and, decide_eq_decide]
    omega
  have hr2 : floorR a b k = if floorB a b k then floorZ a b k else 0 := rfl
  have hql : absN a * absN k / absN b ≤ absN a * absN k := Nat.div_le_self _ _
  have hrl : absN a * absN k % absN b < absN b := Nat.mod_lt _ pb
  obtain ⟨th, tl, W1⟩ := wv (absN a * absN k)
  obtain ⟨qh, ql, W2⟩ := wv (absN a * absN k / absN b)
  have T := Lib.hid (fun w => rtimes_any (absN a) (absN k) (by omega) (by omega) W1 w)
  have D := Lib.hid (fun w => divide_any W1 (wv_low (n := absN b) (by omega)) (by omega) pb (by omega) W2 (wv_low (n := absN a * absN k % absN b) (by omega)) w)
  generalize absN a * absN k % absN b = rl at *
  generalize absN a * absN k / absN b = q at *
  obtain ⟨sh, sl, W3⟩ := wv (rfl' a q rl)
  refine rfloor_walk a b k n0 n1 d0 d1 k0 k1 (Lib.hid h1) (decide_eq_false (by omega)) (decide_eq_false (by omega)) th tl qh ql rl sh sl T D _ _ (Lib.hid ?_) (Lib.hid ?_) w
  · by_cases ha : a < 0
    · by_cases hz : rl = 0
      · right; left
        have e : rfl' a q rl = q := by unfold rfl'; rw [if_neg (fun h => h.2 hz)]
        rw [e] at W3
        obtain ⟨e1, e2⟩ := wv_eq W3 W2
        exact ⟨decide_eq_true ha, hz, e1, e2⟩
      · left
        have e : rfl' a q rl = q + 1 := by unfold rfl'; rw [if_pos ⟨ha, hz⟩]
        rw [e] at W3
        exact ⟨decide_eq_true ha, by omega, fun w => rplus_any W2 (wv_low (n := 1) (by decide)) W3 (by omega) w⟩
    · right; right
      have e : rfl' a q rl = q := by unfold rfl'; rw [if_neg (fun h => ha h.1)]
      rw [e] at W3
      obtain ⟨e1, e2⟩ := wv_eq W3 W2
      exact ⟨decide_eq_false ha, e1, e2⟩
  · generalize rfl' a q rl = s at *
    unfold WV at W3
    have hs : floorB a b k = decide (s ≤ 4611686018427387904) := by
      rw [hb2, decide_eq_decide, fz]
      split <;> omega
    by_cases h0 : sh = 0
    · by_cases hl : sl ≤ 4611686018427387904
      · have hok : floorB a b k = true := by rw [hs]; exact decide_eq_true (by omega)
        refine Or.inr (Or.inr ⟨h0, decide_eq_false (by omega), hok, by rw [IntKind.wrap_i64]; omega, by rw [IntKind.wrap_i64]; omega, ?_⟩)
        rw [hr2, hok, if_pos rfl, fz]
        by_cases ha : a < 0
        · left; rw [if_pos ha]; exact ⟨decide_eq_true ha, by omega⟩
        · right; rw [if_neg ha]; exact ⟨decide_eq_false ha, by omega⟩
      · have hno : floorB a b k = false := by rw [hs]; exact decide_eq_false (by omega)
        exact Or.inr (Or.inl ⟨h0, decide_eq_true (by omega), by rw [hr2, hno]; rfl, hno⟩)
    · have hno : floorB a b k = false := by rw [hs]; exact decide_eq_false (by omega)
      exact Or.inl ⟨by rw [bne_iff_ne]; omega, by rw [hr2, hno]; rfl, hno⟩
end Go.Proofs.YtdjchdcpbinlnaaDoor
