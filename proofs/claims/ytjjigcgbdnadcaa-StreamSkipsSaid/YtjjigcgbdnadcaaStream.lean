/-
  The contracts of package stream and of the reference, each at every stream and number.
-/
import Derived.Test.YtjjigcgbdnadcaaNew
import Derived.Test.YtjjigcgbdnadcaaBelow
namespace Go.Proofs.Ytjjigcgbdnadcaa
open Go.RowKit
def nxtU (k : Nat) (p : Int) (b : Bool) : Nat := if hasS p then nextU k p.toNat b else 0
def nxtP (p : Int) : Int := if hasS p then p + 1 else p
theorem nxt_no {k : Nat} {p : Int} {b : Bool} (h : hasS p = false) : nxtU k p b = 0 ∧ nxtP p = p := by
  unfold nxtU nxtP; rw [if_neg (by rw [h]; decide), if_neg (by rw [h]; decide)]; exact ⟨rfl, rfl⟩
theorem nxt_yes {k P : Nat} {b : Bool} (h : hasS (P : Int) = true) : nxtU k (P : Int) b = nextU k P b ∧ nxtP (P : Int) = (P : Int) + 1 := by
  unfold nxtU nxtP; rw [if_pos h, if_pos h]; exact ⟨rfl, rfl⟩
theorem has_nat {p : Int} (h : hasS p = true) : ∃ P : Nat, p = (P : Int) ∧ P < 1000000000000 := by
  obtain ⟨h0, h1⟩ := hasS_true h
  exact ⟨p.toNat, by omega, by omega⟩
theorem next_any (k : Nat) (p : Int) (b : Bool) (w : World) : Calls Try.prog 16 #[.agg #[.int .u64 (k : Nat), .int .i64 p, .bool b]] w (Gives (.tuple #[.int .u64 (nxtU k p b : Nat), .agg #[.int .u64 (k : Nat), .int .i64 (nxtP p), .bool b]]) w) := by
  cases h : hasS p
  · obtain ⟨e1, e2⟩ := nxt_no (k := k) (b := b) h
    rw [e1, e2]
    exact next_end k p b h w
  · obtain ⟨P, rfl, hP⟩ := has_nat h
    obtain ⟨e1, e2⟩ := nxt_yes (k := k) (b := b) h
    rw [e1, e2]
    exact next_yes k P b hP w
theorem rnext_any (k : Nat) (p : Int) (b : Bool) (w : World) : Calls Try.prog 17 #[.agg #[.int .u64 (k : Nat), .int .i64 p, .bool b]] w (Gives (.tuple #[.int .u64 (nxtU k p b : Nat), .agg #[.int .u64 (k : Nat), .int .i64 (nxtP p), .bool b]]) w) := by
  cases h : hasS p
  · obtain ⟨e1, e2⟩ := nxt_no (k := k) (b := b) h
    rw [e1, e2]
    exact rnext_end k p b h w
  · obtain ⟨P, rfl, hP⟩ := has_nat h
    obtain ⟨e1, e2⟩ := nxt_yes (k := k) (b := b) h
    rw [e1, e2]
    exact rnext_yes k P b hP w
def belV (k : Nat) (p : Int) (b : Bool) (n : Int) : Nat := if belB p n then hiN (nextU k p.toNat b) n.toNat else 0
def belP (p n : Int) : Int := if belB p n then p + 1 else p
theorem bel_no {k : Nat} {p n : Int} {b : Bool} (h : belB p n = false) : belV k p b n = 0 ∧ belP p n = p := by
  unfold belV belP; rw [if_neg (by rw [h]; decide), if_neg (by rw [h]; decide)]; exact ⟨rfl, rfl⟩
theorem bel_yes {k P N : Nat} {b : Bool} (h : belB (P : Int) (N : Int) = true) : belV k (P : Int) b (N : Int) = hiN (nextU k P b) N ∧ belP (P : Int) (N : Int) = (P : Int) + 1 := by
  unfold belV belP; rw [if_pos h, if_pos h]; exact ⟨rfl, rfl⟩
theorem belB_true {p n : Int} (h : belB p n = true) : hasS p = true ∧ ∃ P N : Nat, p = (P : Int) ∧ n = (N : Int) ∧ P < 1000000000000 ∧ 1 ≤ N ∧ N ≤ 1000000000000 := by
  unfold belB at h
  rw [Bool.and_eq_true] at h
  obtain ⟨P, e, hP⟩ := has_nat h.1
  obtain ⟨h1, h2⟩ := of_decide_eq_true h.2
  exact ⟨h.1, P, n.toNat, e, by omega, hP, by omega, by omega⟩
theorem wrap_small {v : Nat} (h : v < 1000000000000) : IntKind.i64.wrap (v : Int) = (v : Int) := by rw [IntKind.wrap_i64]; omega
theorem wrap_n {N : Nat} (h : N ≤ 1000000000000) : IntKind.u64.wrap (N : Int) = (N : Int) := by rw [IntKind.wrap_u64]; omega
theorem below_any (k : Nat) (p : Int) (b : Bool) (n : Int) (w : World) : Calls Try.prog 18 #[.agg #[.int .u64 (k : Nat), .int .i64 p, .bool b], .int .i64 n] w (Gives (.tuple #[.int .i64 (belV k p b n : Nat), .agg #[.int .u64 (k : Nat), .int .i64 (belP p n), .bool b], .bool (belB p n)]) w) := by
  cases h : belB p n
  · obtain ⟨e1, e2⟩ := bel_no (k := k) (b := b) h
    rw [e1, e2]
    exact below_no k p b n h w
  · obtain ⟨hh, P, N, rfl, rfl, hP, n1, n2⟩ := belB_true h
    obtain ⟨e1, e2⟩ := bel_yes (k := k) (b := b) h
    rw [e1, e2]
    have hv := hiN_lt (nextU_lt k P b) (n := N) (by omega)
    exact below_yes k P N b _ _ _ hP (decide_eq_false (by omega)) (decide_eq_false (by omega)) (wrap_n n2) (Lib.hid rfl) (wrap_small (by omega)) (Lib.hid hh) (Lib.hid (mul64_any (nextU k P b) N (nextU_lt k P b) (by omega))) w
theorem rbelow_any (k : Nat) (p : Int) (b : Bool) (n : Int) (w : World) : Calls Try.prog 19 #[.agg #[.int .u64 (k : Nat), .int .i64 p, .bool b], .int .i64 n] w (Gives (.tuple #[.int .i64 (belV k p b n : Nat), .agg #[.int .u64 (k : Nat), .int .i64 (belP p n), .bool b], .bool (belB p n)]) w) := by
  cases h : belB p n
  · obtain ⟨e1, e2⟩ := bel_no (k := k) (b := b) h
    rw [e1, e2]
    exact rbelow_no k p b n h w
  · obtain ⟨hh, P, N, rfl, rfl, hP, n1, n2⟩ := belB_true h
    obtain ⟨e1, e2⟩ := bel_yes (k := k) (b := b) h
    rw [e1, e2]
    have hv := hiN_lt (nextU_lt k P b) (n := N) (by omega)
    exact rbelow_yes k P N b _ _ hP (decide_eq_false (by omega)) (decide_eq_false (by omega)) (wrap_n n2) (Lib.hid rfl) (wrap_small (by omega)) (Lib.hid (by rw [hh]; rfl)) (Lib.hid (high_any (nextU k P b) N (nextU_lt k P b) (by omega))) w
theorem new_any (seed : Int) (s : ByteArray) (hs : s.size ≤ 1000) (w : World) : Calls Try.prog 13 #[.int .i64 seed, .string s] w (Gives (.agg #[.int .u64 (newK seed s : Nat), .int .i64 0, .bool false]) w) := by
  rw [← keyAt_all]
  exact new_walk seed s hs (KeyAt seed s) _ (arg_i seed) (Lib.hid (by rw [keyAt_zero]; exact mix_any _ (addG_lt _))) (Lib.hid (turn_s seed s)) w
theorem rnew_any (seed : Int) (s : ByteArray) (hs : s.size ≤ 1000) (w : World) : Calls Try.prog 14 #[.int .i64 seed, .string s] w (Gives (.agg #[.int .u64 (newK seed s : Nat), .int .i64 0, .bool false]) w) := by
  rw [← keyAt_all]
  exact rnew_walk seed s hs (KeyAt seed s) _ (arg_i seed) (Lib.hid (by rw [keyAt_zero]; exact rmix_any _ (addG_lt _))) (Lib.hid (turn_r seed s)) w
end Go.Proofs.Ytjjigcgbdnadcaa
