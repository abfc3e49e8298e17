/-
  The contracts of Sum, of the library and of the reference.
-/
import Derived.Test.YtnfddeoddjmpkaaCIntR
import Derived.Test.YtnfddeoddjmpkaaCCrc
namespace Go.Proofs.Ytnfddeoddjmpkaa.Co
open Go.RowKit
set_option maxHeartbeats 2000000
theorem and_odd {Z : Nat} (h : Z % 2 = 1) (hz : Z < 4294967296) : bits .and .u32 (Z : Int) 1 = 1 := by
  have := u32_and_nat Z 1 hz (by decide)
  rw [nat_mask1, h] at this
  exact this
theorem and_even {Z : Nat} (h : ¬ Z % 2 = 1) (hz : Z < 4294967296) : bits .and .u32 (Z : Int) 1 = 0 := by
  have := u32_and_nat Z 1 hz (by decide)
  rw [nat_mask1, show Z % 2 = 0 by omega] at this
  exact this
theorem rem_odd {Z : Nat} (h : Z % 2 = 1) : (((Z : Int) % 2) == 1) = true := beq_iff_eq.2 (by omega)
theorem rem_even {Z : Nat} (h : ¬ Z % 2 = 1) : (((Z : Int) % 2) == 1) = false := beq_eq_false_iff_ne.2 (by omega)
theorem half_odd {Z : Nat} (h : Z % 2 = 1) (hz : Z < 4294967296) : bits .xor .u32 ((Z : Int) / 2) 2197175160 = ((stepC Z : Nat) : Int) := by
  have := u32_xor_nat (Z / 2) 2197175160 (by omega) (by decide)
  unfold stepC
  rw [if_pos h, ← this]
  rfl
theorem half_even {Z : Nat} (h : ¬ Z % 2 = 1) : stepC Z = Z / 2 := by unfold stepC; rw [if_neg h]
theorem xor_ones32 {X : Nat} (h : X < 4294967296) : bits .xor .u32 (X : Int) 4294967295 = ((X ^^^ 4294967295 : Nat) : Int) := u32_xor_nat X 4294967295 h (by decide)
theorem not_u32 {X : Nat} (h : X < 4294967296) : Op.unary .xor (.int .u32 (X : Int)) = pure (.int .u32 ((X ^^^ 4294967295 : Nat) : Int)) := by
  show pure (Value.int .u32 (bits .xor .u32 (if IntKind.u32.signed = true then -1 else IntKind.u32.max) (X : Int))) = _
  have e2 : IntKind.u32.max = ((4294967295 : Nat) : Int) := by decide
  rw [if_neg (by decide), e2, u32_xor_nat 4294967295 X (by decide) h, Nat.xor_comm]
set_option maxRecDepth 100000 in
theorem sum_any (p : Option Addr) (n c : Nat) (l : List UInt8) (w : World) (hb : Byt w p n l) : Calls Try.prog 25 #[.slice p n c] w (Gives (.int .i64 (sumC l : Nat)) w) := by
  have HB := Lib.hid hb
  have HL := Lib.hid hb.1
  have hn : (n : Int) ≤ 9223372036854775807 := by have := hb.2.1; omega
  have HS : Hid (runC 4294967295 l ^^^ 4294967295 = sumC l) := Lib.hid rfl
  clear hb
  go_enter Try.func25, Try.ntmps25
  go_wp2_with fail
  go_loop [3, 9] (fun u i => ∃ (k X : Nat), k ≤ n ∧ u = .int .u32 (X : Nat) ∧ i = .int .i64 (k : Nat) ∧ Hid (runC X (l.drop k) = runC 4294967295 l) ∧ Hid (X < 4294967296)) (fun _ i => n - (intOf i).toNat)
  case atStart => exact ⟨0, 4294967295, Nat.zero_le _, rfl, rfl, Lib.hid rfl, Lib.hid (by decide)⟩
  case round =>
    obtain ⟨k, X, hk, rfl, rfl, HR, HX⟩ := hrel
    have c1 : (0 : Int) ≤ (k : Int) := by omega
    have x0 : (0 : Int) ≤ (X : Int) := by omega
    have x1 : (X : Int) < 4294967296 := by have := HX.out; omega
    rcases Nat.lt_or_ge k n with h | h
    · have hkl : k < l.length := by rw [HL.out]; exact h
      obtain ⟨-, -, h0 | ⟨b, o, rfl, hb, hcell⟩⟩ := HB.out
      · omega
      · have e1 := hcell.out k hkl
        have c2 : (k : Int) < (n : Int) := by omega
        have HR2 : Hid (runC (stepsC 8 (X ^^^ (l[k]).toNat)) (l.drop (k + 1)) = runC 4294967295 l) := Lib.hid (by rw [← runC_cons, ← drop_cons hkl]; exact HR.out)
        obtain ⟨ch, ech⟩ : ∃ ch, l[k] = ch := ⟨_, rfl⟩
        rw [ech] at e1 HR2
        have q1 := u32_xor_nat X ch.toNat HX.out (by have := ch.toNat_lt; omega)
        have HY := Lib.hid (byte_xor_lt HX.out ch)
        obtain ⟨Y, hY⟩ : ∃ Y, X ^^^ ch.toNat = Y := ⟨_, rfl⟩
        rw [hY] at q1 HY HR2
        have hb1 := byte_lt ch
        obtain ⟨x, ex⟩ : ∃ x, ch.toNat = x := ⟨_, rfl⟩
        rw [ex] at e1 q1 hb1
        have d0 : (0 : Int) ≤ (x : Int) := by omega
        have d1 : (x : Int) < 256 := by omega
        have y0 : (0 : Int) ≤ (Y : Int) := by omega
        have y1 : (Y : Int) < 4294967296 := by have := HY.out; omega
        clear ech ex hcell hY hb1 hkl
        go_wp2_with fail
        go_loop [3, 17] (fun u i => ∃ (j Z : Nat), j ≤ 8 ∧ u = .int .u32 (Z : Nat) ∧ i = .int .i64 (j : Nat) ∧ Hid (Z = stepsC j Y) ∧ Hid (Z < 4294967296)) (fun _ i => 8 - (intOf i).toNat)
        case atStart => exact ⟨0, Y, Nat.zero_le _, rfl, rfl, Lib.hid rfl, HY⟩
        case round =>
          obtain ⟨j, Z, hj, rfl, rfl, HZ, HZ2⟩ := hrel
          have z0 : (0 : Int) ≤ (Z : Int) := by omega
          have z1 : (Z : Int) < 4294967296 := by have := HZ2.out; omega
          have j0 : (0 : Int) ≤ (j : Int) := by omega
          by_cases hj8 : j < 8
          · have j1 : decide ((j : Int) < 8) = true := decide_eq_true (by omega)
            have j2 : (j : Int) + 1 ≤ 8 := by omega
            have HZ3 : Hid (stepC Z = stepsC (j + 1) Y) := Lib.hid (by rw [HZ.out]; rfl)
            have HZ4 : Hid (stepC Z < 4294967296) := Lib.hid (stepC_lt HZ2.out)
            by_cases ho : Z % 2 = 1
            · have a1 := and_odd ho HZ2.out
              have a2 := half_odd ho HZ2.out
              obtain ⟨V, hV⟩ : ∃ V, stepC Z = V := ⟨_, rfl⟩
              rw [hV] at HZ3 HZ4 a2
              clear ho hj8 hV
              go_wp2_with fail
              go_round
              case rel => exact ⟨j + 1, V, by omega, rfl, by go_num, HZ3, HZ4⟩
              case measure => simp [intOf]; omega
            · have a1 := and_even ho HZ2.out
              have a2 := half_even ho
              rw [a2] at HZ3 HZ4
              clear ho hj8 a2
              go_wp2_with fail
              go_round
              case rel => exact ⟨j + 1, Z / 2, by omega, by go_num, by go_num, HZ3, HZ4⟩
              case measure => simp [intOf]; omega
          · obtain rfl : j = 8 := by omega
            have j1 : decide (((8 : Nat) : Int) < 8) = false := decide_eq_false (by omega)
            have HN : Hid (runC Z (l.drop (k + 1)) = runC 4294967295 l) := Lib.hid (by rw [HZ.out]; exact HR2.out)
            clear hj8
            go_wp2_with fail
            go_round
            case rel => exact ⟨k + 1, Z, by omega, rfl, by go_num, HN, HZ2⟩
            case measure => simp [intOf]; omega
    · obtain rfl : n = k := by omega
      have HR2 : Hid (X ^^^ 4294967295 = sumC l) := Lib.hid (by
        have e := HR.out
        rw [List.drop_of_length_le (by rw [HL.out]; exact Nat.le_refl _), runC_nil] at e
        rw [← HS.out, ← e])
      have q1 := not_u32 HX.out
      have HV : Hid (X ^^^ 4294967295 < 4294967296) := Lib.hid (Nat.xor_lt_two_pow (n := 32) HX.out (by decide))
      obtain ⟨V, hV⟩ : ∃ V, X ^^^ 4294967295 = V := ⟨_, rfl⟩
      rw [hV] at q1 HV HR2
      have v0 : (0 : Int) ≤ (V : Int) := by omega
      have v1 : (V : Int) < 4294967296 := by have := HV.out; omega
      clear hV
      go_wp2_with fail
      go_ret
      exact ⟨ret_int (by rw [HR2.out]), Below.refl _ _⟩
set_option maxRecDepth 100000 in
theorem rsum_any (p : Option Addr) (n c : Nat) (l : List UInt8) (w : World) (hb : Byt w p n l) : Calls Try.prog 26 #[.slice p n c] w (Gives (.int .i64 (sumC l : Nat)) w) := by
  have HB := Lib.hid hb
  have HL := Lib.hid hb.1
  have hn : (n : Int) ≤ 9223372036854775807 := by have := hb.2.1; omega
  have HS : Hid (runC 4294967295 l ^^^ 4294967295 = sumC l) := Lib.hid rfl
  clear hb
  go_enter Try.func26, Try.ntmps26
  go_wp2_with fail
  go_loop [3, 4] (fun u i => ∃ (k X : Nat), k ≤ n ∧ u = .int .u32 (X : Nat) ∧ i = .int .i64 (k : Nat) ∧ Hid (runC X (l.drop k) = runC 4294967295 l) ∧ Hid (X < 4294967296)) (fun _ i => n - (intOf i).toNat)
  case atStart => exact ⟨0, 4294967295, Nat.zero_le _, rfl, rfl, Lib.hid rfl, Lib.hid (by decide)⟩
  case round =>
    obtain ⟨k, X, hk, rfl, rfl, HR, HX⟩ := hrel
    have c1 : (0 : Int) ≤ (k : Int) := by omega
    have x0 : (0 : Int) ≤ (X : Int) := by omega
    have x1 : (X : Int) < 4294967296 := by have := HX.out; omega
    rcases Nat.lt_or_ge k n with h | h
    · have hkl : k < l.length := by rw [HL.out]; exact h
      obtain ⟨-, -, h0 | ⟨b, o, rfl, hb, hcell⟩⟩ := HB.out
      · omega
      · have e1 := hcell.out k hkl
        have c2 : (k : Int) < (n : Int) := by omega
        have HR2 : Hid (runC (stepsC 8 (X ^^^ (l[k]).toNat)) (l.drop (k + 1)) = runC 4294967295 l) := Lib.hid (by rw [← runC_cons, ← drop_cons hkl]; exact HR.out)
        obtain ⟨ch, ech⟩ : ∃ ch, l[k] = ch := ⟨_, rfl⟩
        rw [ech] at e1 HR2
        have q1 := u32_xor_nat X ch.toNat HX.out (by have := ch.toNat_lt; omega)
        have HY := Lib.hid (byte_xor_lt HX.out ch)
        obtain ⟨Y, hY⟩ : ∃ Y, X ^^^ ch.toNat = Y := ⟨_, rfl⟩
        rw [hY] at q1 HY HR2
        have hb1 := byte_lt ch
        obtain ⟨x, ex⟩ : ∃ x, ch.toNat = x := ⟨_, rfl⟩
        rw [ex] at e1 q1 hb1
        have d0 : (0 : Int) ≤ (x : Int) := by omega
        have d1 : (x : Int) < 256 := by omega
        have y0 : (0 : Int) ≤ (Y : Int) := by omega
        have y1 : (Y : Int) < 4294967296 := by have := HY.out; omega
        clear ech ex hcell hY hb1 hkl
        go_wp2_with fail
        go_loop [3, 5] (fun u i => ∃ (j Z : Nat), j ≤ 8 ∧ u = .int .u32 (Z : Nat) ∧ i = .int .i64 (j : Nat) ∧ Hid (Z = stepsC j Y) ∧ Hid (Z < 4294967296)) (fun _ i => 8 - (intOf i).toNat)
        case atStart => exact ⟨0, Y, Nat.zero_le _, rfl, rfl, Lib.hid rfl, HY⟩
        case round =>
          obtain ⟨j, Z, hj, rfl, rfl, HZ, HZ2⟩ := hrel
          have z0 : (0 : Int) ≤ (Z : Int) := by omega
          have z1 : (Z : Int) < 4294967296 := by have := HZ2.out; omega
          have j0 : (0 : Int) ≤ (j : Int) := by omega
          by_cases hj8 : j < 8
          · have j1 : decide ((j : Int) < 8) = true := decide_eq_true (by omega)
            have j2 : (j : Int) + 1 ≤ 8 := by omega
            have HZ3 : Hid (stepC Z = stepsC (j + 1) Y) := Lib.hid (by rw [HZ.out]; rfl)
            have HZ4 : Hid (stepC Z < 4294967296) := Lib.hid (stepC_lt HZ2.out)
            by_cases ho : Z % 2 = 1
            · have a1 := rem_odd ho
              have a2 := half_odd ho HZ2.out
              obtain ⟨V, hV⟩ : ∃ V, stepC Z = V := ⟨_, rfl⟩
              rw [hV] at HZ3 HZ4 a2
              clear ho hj8 hV
              go_wp2_with fail
              go_round
              case rel => exact ⟨j + 1, V, by omega, rfl, by go_num, HZ3, HZ4⟩
              case measure => simp [intOf]; omega
            · have a1 := rem_even ho
              have a2 := half_even ho
              rw [a2] at HZ3 HZ4
              clear ho hj8 a2
              go_wp2_with fail
              go_round
              case rel => exact ⟨j + 1, Z / 2, by omega, by go_num, by go_num, HZ3, HZ4⟩
              case measure => simp [intOf]; omega
          · obtain rfl : j = 8 := by omega
            have j1 : decide (((8 : Nat) : Int) < 8) = false := decide_eq_false (by omega)
            have HN : Hid (runC Z (l.drop (k + 1)) = runC 4294967295 l) := Lib.hid (by rw [HZ.out]; exact HR2.out)
            clear hj8
            go_wp2_with fail
            go_round
            case rel => exact ⟨k + 1, Z, by omega, rfl, by go_num, HN, HZ2⟩
            case measure => simp [intOf]; omega
    · obtain rfl : n = k := by omega
      have HR2 : Hid (X ^^^ 4294967295 = sumC l) := Lib.hid (by
        have e := HR.out
        rw [List.drop_of_length_le (by rw [HL.out]; exact Nat.le_refl _), runC_nil] at e
        rw [← HS.out, ← e])
      have q1 := xor_ones32 HX.out
      have HV : Hid (X ^^^ 4294967295 < 4294967296) := Lib.hid (Nat.xor_lt_two_pow (n := 32) HX.out (by decide))
      obtain ⟨V, hV⟩ : ∃ V, X ^^^ 4294967295 = V := ⟨_, rfl⟩
      rw [hV] at q1 HV HR2
      have v0 : (0 : Int) ≤ (V : Int) := by omega
      have v1 : (V : Int) < 4294967296 := by have := HV.out; omega
      clear hV
      go_wp2_with fail
      go_ret
      exact ⟨ret_int (by rw [HR2.out]), Below.refl _ _⟩
end Go.Proofs.Ytnfddeoddjmpkaa.Co
