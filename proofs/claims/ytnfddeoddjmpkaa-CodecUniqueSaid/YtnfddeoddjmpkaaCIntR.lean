/-
  The contract of the reference's Int.
-/
import Derived.Test.YtnfddeoddjmpkaaCInt
namespace Go.Proofs.Ytnfddeoddjmpkaa.Co
open Go.RowKit
set_option maxHeartbeats 2000000
theorem mul_fact {x k : Nat} (hk : k ≤ 9) (hx : k = 9 → x % 128 ≤ 1) : IntKind.u64.wrap ((x : Int) % 128 * ((128 ^ k : Nat) : Int)) = ((x % 128 * 128 ^ k : Nat) : Int) := by
  have h1 := (part_lt hk hx (Nat.mod_lt x (by decide))).1
  have e : ((x : Int) % 128) * ((128 ^ k : Nat) : Int) = ((x % 128 * 128 ^ k : Nat) : Int) := by
    push_cast
    rfl
  rw [e, IntKind.wrap_u64]
  omega
theorem unit_fact (k : Nat) : IntKind.u64.wrap (((128 ^ k : Nat) : Int) * 128) = ((128 ^ (k + 1) % 18446744073709551616 : Nat) : Int) := by
  have e : ((128 ^ k : Nat) : Int) * 128 = ((128 ^ (k + 1) : Nat) : Int) := by rw [Nat.pow_succ, Int.natCast_mul]; rfl
  rw [e, IntKind.wrap_u64, Int.natCast_emod]
  rfl
set_option maxRecDepth 100000 in
theorem rint_any (p : Option Addr) (n c : Nat) (l : List UInt8) (D : Dec) (w : World) (hb : Byt w p n l) (hD : Hid (dec l 0 0 = D)) : Calls Try.prog 19 #[.slice p n c] w (Gives (.tuple #[.int .i64 D.n, .int .i64 (D.k : Nat), .int .i64 (D.e : Nat)]) w) := by
  have HB := Lib.hid hb
  have HL := Lib.hid hb.1
  have hn : (n : Int) ≤ 9223372036854775807 := by have := hb.2.1; omega
  clear hb
  go_enter Try.func19, Try.ntmps19
  go_wp2_with fail
  go_loop [5, 6, 7] (fun u t i => ∃ (k acc : Nat), k ≤ n ∧ k ≤ 9 ∧ u = .int .u64 (acc : Nat) ∧ t = .int .u64 ((128 ^ k : Nat) : Int) ∧ i = .int .i64 (k : Nat) ∧ Hid (dec (l.drop k) k acc = D) ∧ Hid (acc < 128 ^ k)) (fun _ _ i => 10 - (intOf i).toNat)
  case atStart => exact ⟨0, 0, Nat.zero_le _, Nat.zero_le _, rfl, rfl, rfl, hD, Lib.hid (by decide)⟩
  case round =>
    obtain ⟨k, acc, hk, hk9, rfl, rfl, rfl, HD, HA⟩ := hrel
    have c1 : (0 : Int) ≤ (k : Int) := by omega
    have d2 : (k : Int) ≤ 9 := by omega
    have d3 : decide ((k : Int) < 10) = true := decide_eq_true (by omega)
    rcases Nat.lt_or_ge k n with h | h
    · have hkl : k < l.length := by rw [HL.out]; exact h
      obtain ⟨-, -, h0 | ⟨b, o, rfl, hb, hcell⟩⟩ := HB.out
      · omega
      · have e1 := hcell.out k hkl
        have c2 : (k : Int) < (n : Int) := by omega
        have HD2 : Hid (dec (l[k] :: l.drop (k + 1)) k acc = D) := Lib.hid (by rw [← drop_cons hkl]; exact HD.out)
        obtain ⟨ch, ech⟩ : ∃ ch, l[k] = ch := ⟨_, rfl⟩
        rw [ech] at e1 HD2
        have hb1 := byte_lt ch
        obtain ⟨x, ex⟩ : ∃ x, ch.toNat = x := ⟨_, rfl⟩
        rw [ex] at e1 hb1
        have EX := Lib.hid ex
        have d0 : (0 : Int) ≤ (x : Int) := by omega
        have d1 : (x : Int) < 256 := by omega
        clear ech ex hcell
        by_cases k9 : k = 9
        · have t1 : ((k : Int) == 9) = true := by (first | exact beq_iff_eq.2 (by omega) | exact beq_eq_false_iff_ne.2 (by omega))
          have t1' : (k == 9) = true := by (first | exact beq_iff_eq.2 (by omega) | exact beq_eq_false_iff_ne.2 (by omega))
          have t2 : decide ((0 : Int) < (k : Int)) = true := by (first | exact decide_eq_true (by omega) | exact decide_eq_false (by omega))
          have t2' : decide (0 < k) = true := by (first | exact decide_eq_true (by omega) | exact decide_eq_false (by omega))
          by_cases x1 : 1 < x
          · have u1 : decide ((1 : Int) < (x : Int)) = true := by (first | exact decide_eq_true (by omega) | exact decide_eq_false (by omega))
            have u1' : decide (1 < x) = true := by (first | exact decide_eq_true (by omega) | exact decide_eq_false (by omega))
            have HR : Hid (D = .bad 8) := Lib.hid (by rw [← HD2.out]; exact dec_bad (by rw [EX.out]; omega))
            clear hk hk9 hkl hb1
            (try clear x1)
            clear k9
            go_wp2_with fail
            go_ret3
            exact ⟨by rw [HR.out]; rfl, Below.refl _ _⟩
          · have u1 : decide ((1 : Int) < (x : Int)) = false := by (first | exact decide_eq_true (by omega) | exact decide_eq_false (by omega))
            have u1' : decide (1 < x) = false := by (first | exact decide_eq_true (by omega) | exact decide_eq_false (by omega))
            by_cases x0 : x = 0
            · have t3 : ((x : Int) == 0) = true := by (first | exact beq_iff_eq.2 (by omega) | exact beq_eq_false_iff_ne.2 (by omega))
              have t3' : (x == 0) = true := by (first | exact beq_iff_eq.2 (by omega) | exact beq_eq_false_iff_ne.2 (by omega))
              have HR : Hid (D = .bad 8) := Lib.hid (by rw [← HD2.out]; exact dec_bad (by rw [EX.out]; omega))
              have hx9 : k = 9 → x % 128 ≤ 1 := (by omega)
              have hsum := sum_lt HA.out hk9 hx9 (Nat.mod_lt x (by decide))
              have q1 := mul_fact hk9 hx9
              have q3 := Lib.hid (show x % 128 < 128 from Nat.mod_lt x (by decide))
              obtain ⟨Y, hY⟩ : ∃ Y, x % 128 * 128 ^ k = Y := ⟨_, rfl⟩
              rw [hY] at q1 hsum
              obtain ⟨Z, hZ⟩ : ∃ Z, acc + Y = Z := ⟨_, rfl⟩
              have hyz : (acc : Int) + (Y : Int) = (Z : Int) := (by omega)
              have q2 : IntKind.u64.wrap ((acc : Int) + (Y : Int)) = (Z : Int) := (by rw [hyz, IntKind.wrap_u64]; omega)
              obtain ⟨V, hW2⟩ : ∃ V, 128 ^ (k + 1) % 18446744073709551616 = V := ⟨_, rfl⟩
              have q4 := (unit_fact k).trans (by rw [hW2])
              have HV := Lib.hid hW2
              have HW := Lib.hid (rfl : 128 ^ k = 128 ^ k)
              obtain ⟨W, hW⟩ : ∃ W, 128 ^ k = W := ⟨_, rfl⟩
              rw [hZ] at hsum
              have HS := Lib.hid hsum
              clear hk hk9 hkl hb1 hx9 hY hZ hW2 hsum hyz
              (try clear x1)
              (try clear x0)
              (try clear k0)
              clear k9
              clear hW W HW
              generalize ((128 ^ k : Nat) : Int) = W at *
              go_wp2_with fail
              go_ret3
              exact ⟨by rw [HR.out]; rfl, Below.refl _ _⟩
            · have t3 : ((x : Int) == 0) = false := by (first | exact beq_iff_eq.2 (by omega) | exact beq_eq_false_iff_ne.2 (by omega))
              have t3' : (x == 0) = false := by (first | exact beq_iff_eq.2 (by omega) | exact beq_eq_false_iff_ne.2 (by omega))
              have t4 : decide ((x : Int) < (128 : Int)) = true := by (first | exact decide_eq_true (by omega) | exact decide_eq_false (by omega))
              have t4' : decide (x < 128) = true := by (first | exact decide_eq_true (by omega) | exact decide_eq_false (by omega))
              have hx9 : k = 9 → x % 128 ≤ 1 := (by omega)
              have hsum := sum_lt HA.out hk9 hx9 (Nat.mod_lt x (by decide))
              have q1 := mul_fact hk9 hx9
              have q3 := Lib.hid (show x % 128 < 128 from Nat.mod_lt x (by decide))
              obtain ⟨Y, hY⟩ : ∃ Y, x % 128 * 128 ^ k = Y := ⟨_, rfl⟩
              rw [hY] at q1 hsum
              obtain ⟨Z, hZ⟩ : ∃ Z, acc + Y = Z := ⟨_, rfl⟩
              have hyz : (acc : Int) + (Y : Int) = (Z : Int) := (by omega)
              have q2 : IntKind.u64.wrap ((acc : Int) + (Y : Int)) = (Z : Int) := (by rw [hyz, IntKind.wrap_u64]; omega)
              obtain ⟨V, hW2⟩ : ∃ V, 128 ^ (k + 1) % 18446744073709551616 = V := ⟨_, rfl⟩
              have q4 := (unit_fact k).trans (by rw [hW2])
              have HV := Lib.hid hW2
              have HW := Lib.hid (rfl : 128 ^ k = 128 ^ k)
              obtain ⟨W, hW⟩ : ∃ W, 128 ^ k = W := ⟨_, rfl⟩
              rw [hZ] at hsum
              have HS := Lib.hid hsum
              have HR : Hid (D = .good Z (k + 1)) := Lib.hid (by rw [← HD2.out, dec_end (by rw [EX.out]; omega) (by rw [EX.out]; omega), EX.out, ← hZ, ← hY, Nat.mod_eq_of_lt (by omega)])
              clear hk hk9 hkl hb1 hx9 hY hZ hW2 hsum hyz
              (try clear x1)
              (try clear x0)
              (try clear k0)
              clear k9
              clear hW W HW
              generalize ((128 ^ k : Nat) : Int) = W at *
              go_wp2_with fail
              refine (rinteger_any Z _ HS.out).mono ?_
              rintro e w2 ⟨rfl, rfl⟩
              go_wp2_with fail
              go_ret3
              exact ⟨by rw [HR.out]; rfl, Below.refl _ _⟩
        · have t1 : ((k : Int) == 9) = false := by (first | exact beq_iff_eq.2 (by omega) | exact beq_eq_false_iff_ne.2 (by omega))
          have t1' : (k == 9) = false := by (first | exact beq_iff_eq.2 (by omega) | exact beq_eq_false_iff_ne.2 (by omega))
          by_cases x0 : x = 0
          · have t3 : ((x : Int) == 0) = true := by (first | exact beq_iff_eq.2 (by omega) | exact beq_eq_false_iff_ne.2 (by omega))
            have t3' : (x == 0) = true := by (first | exact beq_iff_eq.2 (by omega) | exact beq_eq_false_iff_ne.2 (by omega))
            have t4 : decide ((x : Int) < (128 : Int)) = true := by (first | exact decide_eq_true (by omega) | exact decide_eq_false (by omega))
            have t4' : decide (x < 128) = true := by (first | exact decide_eq_true (by omega) | exact decide_eq_false (by omega))
            by_cases k0 : 0 < k
            · have t2 : decide ((0 : Int) < (k : Int)) = true := by (first | exact decide_eq_true (by omega) | exact decide_eq_false (by omega))
              have t2' : decide (0 < k) = true := by (first | exact decide_eq_true (by omega) | exact decide_eq_false (by omega))
              have HR : Hid (D = .bad 8) := Lib.hid (by rw [← HD2.out]; exact dec_bad (by rw [EX.out]; omega))
              have hx9 : k = 9 → x % 128 ≤ 1 := (by omega)
              have hsum := sum_lt HA.out hk9 hx9 (Nat.mod_lt x (by decide))
              have q1 := mul_fact hk9 hx9
              have q3 := Lib.hid (show x % 128 < 128 from Nat.mod_lt x (by decide))
              obtain ⟨Y, hY⟩ : ∃ Y, x % 128 * 128 ^ k = Y := ⟨_, rfl⟩
              rw [hY] at q1 hsum
              obtain ⟨Z, hZ⟩ : ∃ Z, acc + Y = Z := ⟨_, rfl⟩
              have hyz : (acc : Int) + (Y : Int) = (Z : Int) := (by omega)
              have q2 : IntKind.u64.wrap ((acc : Int) + (Y : Int)) = (Z : Int) := (by rw [hyz, IntKind.wrap_u64]; omega)
              obtain ⟨V, hW2⟩ : ∃ V, 128 ^ (k + 1) % 18446744073709551616 = V := ⟨_, rfl⟩
              have q4 := (unit_fact k).trans (by rw [hW2])
              have HV := Lib.hid hW2
              have HW := Lib.hid (rfl : 128 ^ k = 128 ^ k)
              obtain ⟨W, hW⟩ : ∃ W, 128 ^ k = W := ⟨_, rfl⟩
              rw [hZ] at hsum
              have HS := Lib.hid hsum
              clear hk hk9 hkl hb1 hx9 hY hZ hW2 hsum hyz
              (try clear x1)
              (try clear x0)
              (try clear k0)
              clear k9
              clear hW W HW
              generalize ((128 ^ k : Nat) : Int) = W at *
              go_wp2_with fail
              go_ret3
              exact ⟨by rw [HR.out]; rfl, Below.refl _ _⟩
            · have t2 : decide ((0 : Int) < (k : Int)) = false := by (first | exact decide_eq_true (by omega) | exact decide_eq_false (by omega))
              have t2' : decide (0 < k) = false := by (first | exact decide_eq_true (by omega) | exact decide_eq_false (by omega))
              have hx9 : k = 9 → x % 128 ≤ 1 := (by omega)
              have hsum := sum_lt HA.out hk9 hx9 (Nat.mod_lt x (by decide))
              have q1 := mul_fact hk9 hx9
              have q3 := Lib.hid (show x % 128 < 128 from Nat.mod_lt x (by decide))
              obtain ⟨Y, hY⟩ : ∃ Y, x % 128 * 128 ^ k = Y := ⟨_, rfl⟩
              rw [hY] at q1 hsum
              obtain ⟨Z, hZ⟩ : ∃ Z, acc + Y = Z := ⟨_, rfl⟩
              have hyz : (acc : Int) + (Y : Int) = (Z : Int) := (by omega)
              have q2 : IntKind.u64.wrap ((acc : Int) + (Y : Int)) = (Z : Int) := (by rw [hyz, IntKind.wrap_u64]; omega)
              obtain ⟨V, hW2⟩ : ∃ V, 128 ^ (k + 1) % 18446744073709551616 = V := ⟨_, rfl⟩
              have q4 := (unit_fact k).trans (by rw [hW2])
              have HV := Lib.hid hW2
              have HW := Lib.hid (rfl : 128 ^ k = 128 ^ k)
              obtain ⟨W, hW⟩ : ∃ W, 128 ^ k = W := ⟨_, rfl⟩
              rw [hZ] at hsum
              have HS := Lib.hid hsum
              have HR : Hid (D = .good Z (k + 1)) := Lib.hid (by rw [← HD2.out, dec_end (by rw [EX.out]; omega) (by rw [EX.out]; omega), EX.out, ← hZ, ← hY, Nat.mod_eq_of_lt (by omega)])
              clear hk hk9 hkl hb1 hx9 hY hZ hW2 hsum hyz
              (try clear x1)
              (try clear x0)
              (try clear k0)
              clear k9
              clear hW W HW
              generalize ((128 ^ k : Nat) : Int) = W at *
              go_wp2_with fail
              refine (rinteger_any Z _ HS.out).mono ?_
              rintro e w2 ⟨rfl, rfl⟩
              go_wp2_with fail
              go_ret3
              exact ⟨by rw [HR.out]; rfl, Below.refl _ _⟩
          · have t3 : ((x : Int) == 0) = false := by (first | exact beq_iff_eq.2 (by omega) | exact beq_eq_false_iff_ne.2 (by omega))
            have t3' : (x == 0) = false := by (first | exact beq_iff_eq.2 (by omega) | exact beq_eq_false_iff_ne.2 (by omega))
            by_cases x1 : x < 128
            · have t4 : decide ((x : Int) < (128 : Int)) = true := by (first | exact decide_eq_true (by omega) | exact decide_eq_false (by omega))
              have t4' : decide (x < 128) = true := by (first | exact decide_eq_true (by omega) | exact decide_eq_false (by omega))
              have hx9 : k = 9 → x % 128 ≤ 1 := (by omega)
              have hsum := sum_lt HA.out hk9 hx9 (Nat.mod_lt x (by decide))
              have q1 := mul_fact hk9 hx9
              have q3 := Lib.hid (show x % 128 < 128 from Nat.mod_lt x (by decide))
              obtain ⟨Y, hY⟩ : ∃ Y, x % 128 * 128 ^ k = Y := ⟨_, rfl⟩
              rw [hY] at q1 hsum
              obtain ⟨Z, hZ⟩ : ∃ Z, acc + Y = Z := ⟨_, rfl⟩
              have hyz : (acc : Int) + (Y : Int) = (Z : Int) := (by omega)
              have q2 : IntKind.u64.wrap ((acc : Int) + (Y : Int)) = (Z : Int) := (by rw [hyz, IntKind.wrap_u64]; omega)
              obtain ⟨V, hW2⟩ : ∃ V, 128 ^ (k + 1) % 18446744073709551616 = V := ⟨_, rfl⟩
              have q4 := (unit_fact k).trans (by rw [hW2])
              have HV := Lib.hid hW2
              have HW := Lib.hid (rfl : 128 ^ k = 128 ^ k)
              obtain ⟨W, hW⟩ : ∃ W, 128 ^ k = W := ⟨_, rfl⟩
              rw [hZ] at hsum
              have HS := Lib.hid hsum
              have HR : Hid (D = .good Z (k + 1)) := Lib.hid (by rw [← HD2.out, dec_end (by rw [EX.out]; omega) (by rw [EX.out]; omega), EX.out, ← hZ, ← hY, Nat.mod_eq_of_lt (by omega)])
              clear hk hk9 hkl hb1 hx9 hY hZ hW2 hsum hyz
              (try clear x1)
              (try clear x0)
              (try clear k0)
              clear k9
              clear hW W HW
              generalize ((128 ^ k : Nat) : Int) = W at *
              go_wp2_with fail
              refine (rinteger_any Z _ HS.out).mono ?_
              rintro e w2 ⟨rfl, rfl⟩
              go_wp2_with fail
              go_ret3
              exact ⟨by rw [HR.out]; rfl, Below.refl _ _⟩
            · have t4 : decide ((x : Int) < (128 : Int)) = false := by (first | exact decide_eq_true (by omega) | exact decide_eq_false (by omega))
              have t4' : decide (x < 128) = false := by (first | exact decide_eq_true (by omega) | exact decide_eq_false (by omega))
              have hx9 : k = 9 → x % 128 ≤ 1 := (by omega)
              have hsum := sum_lt HA.out hk9 hx9 (Nat.mod_lt x (by decide))
              have q1 := mul_fact hk9 hx9
              have q3 := Lib.hid (show x % 128 < 128 from Nat.mod_lt x (by decide))
              obtain ⟨Y, hY⟩ : ∃ Y, x % 128 * 128 ^ k = Y := ⟨_, rfl⟩
              rw [hY] at q1 hsum
              obtain ⟨Z, hZ⟩ : ∃ Z, acc + Y = Z := ⟨_, rfl⟩
              have hyz : (acc : Int) + (Y : Int) = (Z : Int) := (by omega)
              have q2 : IntKind.u64.wrap ((acc : Int) + (Y : Int)) = (Z : Int) := (by rw [hyz, IntKind.wrap_u64]; omega)
              obtain ⟨V, hW2⟩ : ∃ V, 128 ^ (k + 1) % 18446744073709551616 = V := ⟨_, rfl⟩
              have q4 := (unit_fact k).trans (by rw [hW2])
              have HV := Lib.hid hW2
              have HW := Lib.hid (rfl : 128 ^ k = 128 ^ k)
              obtain ⟨W, hW⟩ : ∃ W, 128 ^ k = W := ⟨_, rfl⟩
              rw [hZ] at hsum
              have HS := Lib.hid hsum
              have HR : Hid (dec (l.drop (k + 1)) (k + 1) Z = D) := Lib.hid (by rw [← HD2.out, dec_next (by rw [EX.out]; omega) (by rw [EX.out]; omega), EX.out, ← hZ, ← hY, show x % 128 = x - 128 by omega])
              have HZ : Hid (Z < 128 ^ (k + 1)) := Lib.hid (by rw [← hZ, ← hY]; exact step_lt HA.out q3.out)
              have hk8 : k + 1 ≤ 9 := (by omega)
              have HU : Hid ((V : Nat) = 128 ^ (k + 1)) := Lib.hid (by rw [← hW2]; exact Nat.mod_eq_of_lt (Nat.lt_of_le_of_lt (Nat.pow_le_pow_right (by decide) hk8) (by decide)))
              clear hk hk9 hkl hb1 hx9 hY hZ hW2 hsum hyz
              (try clear x1)
              (try clear x0)
              (try clear k0)
              clear k9
              clear hW W HW
              generalize ((128 ^ k : Nat) : Int) = W at *
              go_wp2_with fail
              go_round
              case rel => exact ⟨k + 1, Z, by omega, hk8, rfl, by rw [HU.out], by go_num, HR, HZ⟩
              case measure => simp [intOf]; omega
    · obtain rfl : n = k := by omega
      have HR : Hid (D = .bad 7) := Lib.hid (by rw [← HD.out, List.drop_of_length_le (by rw [HL.out]; exact Nat.le_refl _)]; rfl)
      go_wp2_with fail
      go_ret3
      exact ⟨by rw [HR.out]; rfl, Below.refl _ _⟩
end Go.Proofs.Ytnfddeoddjmpkaa.Co
