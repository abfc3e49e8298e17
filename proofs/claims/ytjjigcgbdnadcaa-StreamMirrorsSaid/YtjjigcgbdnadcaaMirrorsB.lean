/-
  The statement StreamMirrors: the walk's conditions met at every stream.
-/
import Derived.Test.YtjjigcgbdnadcaaMirrors
namespace Go.Proofs.Ytjjigcgbdnadcaa
open Go.RowKit
theorem mir_yes {p : Int} {b : Bool} (h : okS p = true) : mirB p b = !b := by unfold mirB; rw [if_pos h]
theorem mir_no {p : Int} {b : Bool} (h : okS p = false) : mirB p b = b := by unfold mirB; rw [if_neg (by rw [h]; decide)]
theorem skip_ok {p n : Int} (h : okS p = true) : okS (skipP p n) = true := by
  unfold skipP
  obtain ⟨q0, q1⟩ := okS_true h
  split
  · rename_i hh
    rw [Bool.and_eq_true] at hh
    have := of_decide_eq_true hh.2
    exact okS_yes (by omega) (by omega)
  · exact h
theorem nxt_ok {p : Int} (h : okS p = true) : okS (nxtP p) = true := by
  obtain ⟨q0, q1⟩ := okS_true h
  unfold nxtP
  split
  · rename_i hh
    have := hasS_true hh
    exact okS_yes (by omega) (by omega)
  · exact h
theorem bel_sum (k : Nat) (p : Int) (b : Bool) (n : Int) :
    belB p n = false ∨ (belB p n = true ∧ (IntKind.i64.wrap ((belV k p b n : Int) + (belV k p (!b) n : Int)) != IntKind.i64.wrap (n - 1)) = false) ∨
      (belB p n = true ∧ (IntKind.i64.wrap ((belV k p b n : Int) + (belV k p (!b) n : Int)) != IntKind.i64.wrap (n - 1)) = true ∧ (IntKind.i64.wrap ((belV k p b n : Int) + (belV k p (!b) n : Int)) != IntKind.i64.wrap (n - 2)) = false) := by
  by_cases h : belB p n = true
  · right
    obtain ⟨hh, P, N, rfl, rfl, hP, n1, n2⟩ := belB_true h
    obtain ⟨e1, -⟩ := bel_yes (k := k) (b := b) h
    obtain ⟨e2, -⟩ := bel_yes (k := k) (b := !b) h
    rw [e1, e2, nextU_not]
    have hv := hiN_lt (nextU_lt k P b) (n := N) (by omega)
    have hv2 := hiN_lt (u := 18446744073709551615 - nextU k P b) (n := N) (by omega) (by omega)
    have hs := hiN_not (u := nextU k P b) (n := N) (nextU_lt k P b) (by omega) n2
    generalize hiN (nextU k P b) N = i at *
    generalize hiN (18446744073709551615 - nextU k P b) N = j at *
    rw [IntKind.wrap_i64, IntKind.wrap_i64, IntKind.wrap_i64]
    rcases hs with hs | hs
    · refine Or.inl ⟨h, ?_⟩
      rw [bne_eq_false_iff_eq]; omega
    · refine Or.inr ⟨h, ?_, ?_⟩
      · rw [bne_iff_ne]; omega
      · rw [bne_eq_false_iff_eq]; omega
  · exact Or.inl (by simpa using h)
theorem next_sum (k : Nat) (p : Int) (b : Bool) (h : okS p = true) :
    (decide (p < 1000000000000) = true ∧ Op.unary .xor (.int .u64 ((nxtU k p b : Nat) : Int)) = pure (.int .u64 ((nxtU k p (!b) : Nat) : Int))) ∨ decide (p < 1000000000000) = false := by
  by_cases g : hasS p = true
  · left
    obtain ⟨P, rfl, hP⟩ := has_nat g
    obtain ⟨e1, -⟩ := nxt_yes (k := k) (b := b) g
    obtain ⟨e2, -⟩ := nxt_yes (k := k) (b := !b) g
    refine ⟨decide_eq_true (by omega), ?_⟩
    rw [e1, e2, nextU_not]
    exact not_run _ (nextU_lt k P b)
  · right
    have h1 := okS_true h
    have h2 := hasS_false (show hasS p = false by simpa using g)
    exact decide_eq_false (by omega)
theorem streamMirrors_walk (k : Nat) (hk : k < 18446744073709551616) (p : Int) (_ : -9223372036854775808 ≤ p) (_ : p ≤ 9223372036854775807) (b : Bool) (n : Int) (_ : -9223372036854775808 ≤ n) (_ : n ≤ 9223372036854775807) (w : World) :
    Calls Try.prog 7 #[.agg #[.int .u64 (k : Nat), .int .i64 p, .bool b], .int .i64 n] w (Gives (.bool true) w) := by
  cases h : okS p
  · have C1 := check_any k p b
    have M1 := mirror_any k p b
    rw [errS_no h] at C1
    rw [mir_no h] at M1
    exact mirrors_no k p b n (Lib.hid C1) (Lib.hid M1) w
  · have C1 := check_any k p b
    rw [errS_yes h] at C1
    have M1 := mirror_any k p b
    have M3 := mirror_any k p (!b)
    rw [mir_yes h] at M1 M3
    rw [Bool.not_not] at M3
    have M2 := mirror_any k (nxtP p) b
    rw [mir_yes (nxt_ok h)] at M2
    have M5 := mirror_any k (skipP p n) b
    rw [mir_yes (skip_ok h)] at M5
    have M4 := mirror_any (splitK k n) 0 b
    rw [mir_yes (okS_yes (by decide) (by decide))] at M4
    have P1 := split_any k hk p (!b) n
    have P2 := split_any k hk p b n
    rw [splK_yes h, splP_yes h] at P1 P2
    exact mirrors_yes k (splitK k n) p (nxtP p) (belP p n) (skipP p n) n b (!b) (nxtU k p b) (nxtU k p (!b)) (belV k p b n) (belV k p (!b) n) _ _ _ (belB p n) (by cases b <;> decide) (Lib.hid (next_sum k p b h)) (Lib.hid (bel_sum k p b n)) rfl rfl rfl
      (Lib.hid C1) (Lib.hid M1) (Lib.hid (next_any k p b)) (Lib.hid (next_any k p (!b))) (Lib.hid M2) (Lib.hid (below_any k p b n)) (Lib.hid (below_any k p (!b) n)) (Lib.hid M3) (Lib.hid P1) (Lib.hid P2) (Lib.hid M4)
      (Lib.hid (skip_any k p (!b) n)) (Lib.hid (skip_any k p b n)) (Lib.hid M5) w
end Go.Proofs.Ytjjigcgbdnadcaa
