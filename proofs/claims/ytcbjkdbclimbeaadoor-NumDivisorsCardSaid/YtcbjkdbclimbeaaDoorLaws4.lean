/-
  The walk of the statement on the greatest common divisor.
-/
import Derived.Test.YtcbjkdbclimbeaaDoorAwake
namespace Go.Proofs.YtcbjkdbclimbeaaDoor
open Go.RowKit
set_option maxHeartbeats 400000
theorem gcdZ_comm (a b : Int) : gcdZ b a = gcdZ a b := by unfold gcdZ; rw [Int.gcd_comm]
theorem gcd_facts {a b : Int} (a0 : -1000000000000 ≤ a) (a1 : a ≤ 1000000000000) (b0 : -1000000000000 ≤ b) (b1 : b ≤ 1000000000000) (h : ¬ (a = 0 ∧ b = 0)) :
    1 ≤ gcdZ a b ∧ a.tmod (gcdZ a b) = 0 ∧ b.tmod (gcdZ a b) = 0 ∧ ∀ d, a.tmod d = 0 → b.tmod d = 0 → gcdZ a b % d = 0 := by
  unfold gcdZ
  rw [clipZ_id a a0 a1, clipZ_id b b0 b1]
  refine ⟨?_, Int.dvd_iff_tmod_eq_zero.1 (Int.gcd_dvd_left a b), Int.dvd_iff_tmod_eq_zero.1 (Int.gcd_dvd_right a b), fun d h1 h2 => ?_⟩
  · have : Int.gcd a b ≠ 0 := fun e => h (Int.gcd_eq_zero_iff.1 e)
    omega
  · exact Int.emod_eq_zero_of_dvd (Int.dvd_coe_gcd (Int.dvd_iff_tmod_eq_zero.2 h1) (Int.dvd_iff_tmod_eq_zero.2 h2))
theorem numDivisors_out (a b d : Int) (ho : (1000000000000 < a ∨ a < -1000000000000) ∨ (1000000000000 < b ∨ b < -1000000000000)) (w : World) (hE : Env w) :
    Calls Tryd.prog 7 #[.int .i64 a, .int .i64 b, .int .i64 d] w fun e w' => e = .returned (.bool true) ∧ Below w.heap.size w w' := by
  have hx : 1000000000000 < a ∨ a < -1000000000000 ∧ a ≤ 1000000000000 ∨ -1000000000000 ≤ a ∧ a ≤ 1000000000000 ∧ 1000000000000 < b ∨ -1000000000000 ≤ a ∧ a ≤ 1000000000000 ∧ b ≤ 1000000000000 ∧ b < -1000000000000 := by omega
  clear ho
  rcases hx with o1 | ⟨o1, o2⟩ | ⟨o1, o2, o3⟩ | ⟨o1, o2, o3, o4⟩
  all_goals
    go_enter Tryd.func7, Tryd.ntmps7
    go_wp2_with fail
    refine (awake_any _ hE).mono ?_
    rintro e w3 ⟨rfl, hb3⟩
    go_wp2_with fail
    go_ret
    exact ⟨rfl, hb3⟩
theorem numDivisors_zero (d : Int) (w : World) (hE : Env w) :
    Calls Tryd.prog 7 #[.int .i64 0, .int .i64 0, .int .i64 d] w fun e w' => e = .returned (.bool true) ∧ Below w.heap.size w w' := by
  have hg : gcdZ 0 0 = 0 := by decide
  have HG := Lib.hid hg
  clear hg
  go_enter Tryd.func7, Tryd.ntmps7
  go_wp2_with fail
  refine (gcd_any _ _ _).mono ?_
  rintro e w1 ⟨rfl, hb1⟩
  have hE1 := hE.below hb1
  rw [HG.out]
  go_wp2_with fail
  refine (awake_any _ hE1).mono ?_
  rintro e w3 ⟨rfl, hb3⟩
  go_wp2_with fail
  go_ret
  exact ⟨rfl, hb1.trans (hb3.mono hb1.size)⟩
theorem numDivisors_in (a b d : Int) (a0 : -1000000000000 ≤ a) (a1 : a ≤ 1000000000000) (b0 : -1000000000000 ≤ b) (b1 : b ≤ 1000000000000) (ez : (a == 0) = false ∨ (a == 0) = true ∧ (b == 0) = false)
    (hg : 1 ≤ gcdZ a b) (ga : (a.tmod (gcdZ a b) != 0) = false) (gb : (b.tmod (gcdZ a b) != 0) = false) (C : Hid (gcdZ b a = gcdZ a b))
    (hd : d ≤ 0 ∨ 0 < d ∧ (a.tmod d == 0) = false ∨ 0 < d ∧ (a.tmod d == 0) = true ∧ (b.tmod d == 0) = false ∨ 0 < d ∧ (a.tmod d == 0) = true ∧ (b.tmod d == 0) = true ∧ (gcdZ a b % d != 0) = false) (w : World) (hE : Env w) :
    Calls Tryd.prog 7 #[.int .i64 a, .int .i64 b, .int .i64 d] w fun e w' => e = .returned (.bool true) ∧ Below w.heap.size w w' := by
  rcases ez with ez | ⟨ez, fz⟩
  · rcases hd with d0 | ⟨d0, d1⟩ | ⟨d0, d1, d2⟩ | ⟨d0, d1, d2, d3⟩
    all_goals
      go_enter Tryd.func7, Tryd.ntmps7
      go_wp2_with fail
      refine (gcd_any _ _ _).mono ?_
      rintro e w1 ⟨rfl, hb1⟩
      have hE1 := hE.below hb1
      go_wp2_with fail
      refine (gcd_any _ _ _).mono ?_
      rintro e w2 ⟨rfl, hb2⟩
      have hE2 := hE1.below hb2
      rw [C.out]
      go_wp2_with fail
      refine (awake_any _ hE2).mono ?_
      rintro e w3 ⟨rfl, hb3⟩
      go_wp2_with fail
      go_ret
      exact ⟨rfl, (hb1.trans (hb2.mono hb1.size)).trans (hb3.mono (Nat.le_trans hb1.size hb2.size))⟩
  · rcases hd with d0 | ⟨d0, d1⟩ | ⟨d0, d1, d2⟩ | ⟨d0, d1, d2, d3⟩
    all_goals
      go_enter Tryd.func7, Tryd.ntmps7
      go_wp2_with fail
      refine (gcd_any _ _ _).mono ?_
      rintro e w1 ⟨rfl, hb1⟩
      have hE1 := hE.below hb1
      go_wp2_with fail
      refine (gcd_any _ _ _).mono ?_
      rintro e w2 ⟨rfl, hb2⟩
      have hE2 := hE1.below hb2
      rw [C.out]
      go_wp2_with fail
      refine (awake_any _ hE2).mono ?_
      rintro e w3 ⟨rfl, hb3⟩
      go_wp2_with fail
      go_ret
      exact ⟨rfl, (hb1.trans (hb2.mono hb1.size)).trans (hb3.mono (Nat.le_trans hb1.size hb2.size))⟩
theorem numDivisors_walk (a : Int) (_ : -9223372036854775808 ≤ a) (_ : a ≤ 9223372036854775807) (b : Int) (_ : -9223372036854775808 ≤ b) (_ : b ≤ 9223372036854775807) (d : Int) (_ : -9223372036854775808 ≤ d) (_ : d ≤ 9223372036854775807) (w : World) (hE : Env w) :
    Calls Tryd.prog 7 #[.int .i64 a, .int .i64 b, .int .i64 d] w fun e w' => e = .returned (.bool true) ∧ Below w.heap.size w w' := by
  by_cases ho : (1000000000000 < a ∨ a < -1000000000000) ∨ (1000000000000 < b ∨ b < -1000000000000)
  · exact numDivisors_out a b d ho w hE
  · by_cases hz : a = 0 ∧ b = 0
    · obtain ⟨rfl, rfl⟩ := hz
      exact numDivisors_zero d w hE
    · obtain ⟨g1, g2, g3, g4⟩ := gcd_facts (a := a) (b := b) (by omega) (by omega) (by omega) (by omega) hz
      refine numDivisors_in a b d (by omega) (by omega) (by omega) (by omega) ?_ g1 (by rw [g2]; rfl) (by rw [g3]; rfl) (Lib.hid (gcdZ_comm a b)) ?_ w hE
      · by_cases ha : a = 0
        · exact Or.inr ⟨beq_iff_eq.2 ha, beq_eq_false_iff_ne.2 fun hb => hz ⟨ha, hb⟩⟩
        · exact Or.inl (beq_eq_false_iff_ne.2 ha)
      · by_cases hd : d ≤ 0
        · exact Or.inl hd
        · have hd : 0 < d := by omega
          by_cases h1 : a.tmod d = 0
          · by_cases h2 : b.tmod d = 0
            · exact Or.inr (Or.inr (Or.inr ⟨hd, beq_iff_eq.2 h1, beq_iff_eq.2 h2, by rw [g4 d h1 h2]; rfl⟩))
            · exact Or.inr (Or.inr (Or.inl ⟨hd, beq_iff_eq.2 h1, beq_eq_false_iff_ne.2 h2⟩))
          · exact Or.inr (Or.inl ⟨hd, beq_eq_false_iff_ne.2 h1⟩)
end Go.Proofs.YtcbjkdbclimbeaaDoor
