/-
  The contract of the reference's Floor.
-/
import Derived.Test.YtdjchdcpbinlnaaDoorRefFrac
namespace Go.Proofs.YtdjchdcpbinlnaaDoor
open Go.RowKit
set_option maxHeartbeats 4000000
theorem floorB_bad' {n d k : Int} (h : okF n d = false ∨ k < 0 ∨ 1000000000000 < k) : floorB n d k = false := by
  rcases h with h | h
  · unfold floorB; rw [h]; rfl
  · unfold floorB; rw [Bool.and_eq_false_iff]; right; exact decide_eq_false (by omega)
theorem floor_no' {n d k : Int} (h : floorB n d k = false) : floorR n d k = 0 := by unfold floorR; rw [h]; rfl
/-- The floor by magnitudes: the quotient, greater by 1 where the fraction is negative and there is a rest. -/
def rfl' (n : Int) (q r : Nat) : Nat := if n < 0 ∧ r ≠ 0 then q + 1 else q
theorem floorZ_parts {n k : Int} {d : Nat} (hd : 0 < d) (hk : 0 ≤ k) : floorZ n d k = if n < 0 then -(rfl' n (n.natAbs * k.natAbs / d) (n.natAbs * k.natAbs % d) : Int) else (rfl' n (n.natAbs * k.natAbs / d) (n.natAbs * k.natAbs % d) : Int) := by
  unfold floorZ rfl'
  have e := Nat.div_add_mod (n.natAbs * k.natAbs) d
  have hr := Nat.mod_lt (n.natAbs * k.natAbs) hd
  have hD : (0 : Int) < (d : Int) := by omega
  generalize n.natAbs * k.natAbs / d = q at *
  generalize n.natAbs * k.natAbs % d = r at *
  by_cases hn : n < 0
  · have e2 : n * k = -((n.natAbs * k.natAbs : Nat) : Int) := by
      rw [Int.natCast_mul, ← Int.neg_mul]; congr 1 <;> omega
    rw [e2, ← e, if_pos hn]
    by_cases hz : r = 0
    · rw [if_neg (by simp [hz]), hz, Nat.add_zero, Int.natCast_mul, ← Int.mul_neg, Int.mul_ediv_cancel_left _ (by omega)]
    · rw [if_pos ⟨hn, hz⟩]
      have : -((d * q + r : Nat) : Int) = ((d : Int) - r) + (d : Int) * (-((q + 1 : Nat) : Int)) := by
        rw [Int.natCast_add, Int.natCast_mul, Int.natCast_add, Int.mul_neg, Int.mul_add]; omega
      rw [this, Int.add_mul_ediv_left _ _ (by omega), Int.ediv_eq_zero_of_lt (by omega) (by omega), Int.zero_add]
  · have e2 : n * k = ((n.natAbs * k.natAbs : Nat) : Int) := by
      rw [Int.natCast_mul]; congr 1 <;> omega
    rw [e2, ← e, if_neg hn, if_neg (fun h => hn h.1), Int.natCast_add, Int.natCast_mul, Int.add_comm, Int.add_mul_ediv_left _ _ (by omega), Int.ediv_eq_zero_of_lt (by omega) (by omega), Int.zero_add]
theorem rfloor_bad (a b k : Int) (n0 : -9223372036854775808 ≤ a) (n1 : a ≤ 9223372036854775807) (d0 : -9223372036854775808 ≤ b) (d1 : b ≤ 9223372036854775807) (_ : -9223372036854775808 ≤ k) (_ : k ≤ 9223372036854775807) (h : okF a b = false ∨ k < 0 ∨ 1000000000000 < k) (w : World) :
    Calls Tryd.prog 31 #[.agg #[.int .i64 a, .int .i64 b], .int .i64 k] w (Gives (.tuple #[.int .i64 (floorR a b k), .bool (floorB a b k)]) w) := by
  have hb := floorB_bad' h
  rw [floor_no' hb, hb]
  clear hb
  cases h1 : okF a b
  · have H1 := Lib.hid h1
    clear h1 h
    go_enter Tryd.func31, Tryd.ntmps31
    go_wp2_with fail
    refine (rvalid_any a b n0 n1 d0 d1 _).mono ?_
    rintro e w1 ⟨rfl, hb1⟩
    rw [H1.out]
    go_wp2_with fail
    go_ret2
    exact ⟨rfl, by repeat (first | exact Below.refl _ _ | assumption | apply bl_alloc | apply bl_drewN | apply bl_drew | (refine bl_set ?_ (by first | (simp; done) | (simp; omega)) _) | (refine bl_call ?_ (by assumption)))⟩
  · have H1 := Lib.hid h1
    have h : k < 0 ∨ 0 ≤ k ∧ 1000000000000 < k := by rw [h1] at h; simp at h; omega
    clear h1
    rcases h with h | ⟨h, h'⟩
    all_goals
      go_enter Tryd.func31, Tryd.ntmps31
      go_wp2_with fail
      refine (rvalid_any a b n0 n1 d0 d1 _).mono ?_
      rintro e w1 ⟨rfl, hb1⟩
      rw [H1.out]
      go_wp2_with fail
      go_ret2
      exact ⟨rfl, by repeat (first | exact Below.refl _ _ | assumption | apply bl_alloc | apply bl_drewN | apply bl_drew | (refine bl_set ?_ (by first | (simp; done) | (simp; omega)) _) | (refine bl_call ?_ (by assumption)))⟩
end Go.Proofs.YtdjchdcpbinlnaaDoor
