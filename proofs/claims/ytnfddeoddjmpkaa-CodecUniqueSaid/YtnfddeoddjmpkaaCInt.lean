/-
  The contracts of Int, of the library and of the reference.
-/
import Derived.Test.YtnfddeoddjmpkaaCNum
namespace Go.Proofs.Ytnfddeoddjmpkaa.Co
open Go.RowKit
set_option maxHeartbeats 2000000
def Dec.n : Dec → Int
  | .bad _ => 0
  | .good v _ => intZ v
def Dec.k : Dec → Nat
  | .bad _ => 0
  | .good _ k => k
def Dec.e : Dec → Nat
  | .bad e => e
  | .good _ _ => 0
theorem drop_cons {l : List UInt8} {k : Nat} (h : k < l.length) : l.drop k = l[k] :: l.drop (k + 1) := List.drop_eq_getElem_cons h
theorem pow_two (k : Nat) : 2 ^ (7 * k) = 128 ^ k := by rw [Nat.pow_mul]
theorem part_lt {x k : Nat} (hk : k ≤ 9) (hx : k = 9 → x ≤ 1) (h128 : x < 128) : x * 128 ^ k ≤ 9223372036854775808 ∧ (k ≤ 8 → x * 128 ^ k ≤ 9151314442816847872) := by
  by_cases h : k = 9
  · subst h
    have := hx rfl
    exact ⟨by have : (128 : Nat) ^ 9 = 9223372036854775808 := by decide
              rw [this]; omega, fun h => by omega⟩
  · have h8 : 128 ^ k ≤ 72057594037927936 := Nat.le_trans (Nat.pow_le_pow_right (by decide) (show k ≤ 8 by omega)) (by decide)
    have := Nat.mul_le_mul (show x ≤ 127 by omega) h8
    exact ⟨by omega, fun _ => by omega⟩
theorem sum_lt {acc x k : Nat} (ha : acc < 128 ^ k) (hk : k ≤ 9) (hx : k = 9 → x ≤ 1) (h128 : x < 128) : acc + x * 128 ^ k < 18446744073709551616 := by
  have h1 := (part_lt hk hx h128).1
  have h2 : 128 ^ k ≤ 9223372036854775808 := Nat.le_trans (Nat.pow_le_pow_right (by decide) hk) (by decide)
  omega
theorem shl_fact {x k : Nat} (hk : k ≤ 9) (hx : k = 9 → x % 128 ≤ 1) : IntKind.u64.wrap ((x : Int) % 128 * 2 ^ (7 * k)) = ((x % 128 * 128 ^ k : Nat) : Int) := by
  have h1 := (part_lt hk hx (Nat.mod_lt x (by decide))).1
  have e : ((x : Int) % 128) * 2 ^ (7 * k) = ((x % 128 * 128 ^ k : Nat) : Int) := by
    rw [← pow_two]
    push_cast
    rfl
  rw [e, IntKind.wrap_u64]
  omega
theorem or_fact {acc x k : Nat} (ha : acc < 128 ^ k) (hs : acc + x * 128 ^ k < 18446744073709551616) : bits .or .u64 (acc : Int) ((x * 128 ^ k : Nat) : Int) = ((acc + x * 128 ^ k : Nat) : Int) := by
  rw [u64_or_nat acc _ (by omega) (by omega), Nat.or_comm, nat_join (7 * k) (x * 128 ^ k) acc (by rw [pow_two]; exact Nat.mul_mod_left _ _) (by rw [pow_two]; exact ha), Nat.add_comm]
set_option maxRecDepth 100000 in
theorem int_any (p : Option Addr) (n c : Nat) (l : List UInt8) (D : Dec) (w : World) (hb : Byt w p n l) (hD : Hid (dec l 0 0 = D)) : Calls Try.prog 18 #[.slice p n c] w (Gives (.tuple #[.int .i64 D.n, .int .i64 (D.k : Nat), .int .i64 (D.e : Nat)]) w) := by
  have HB := Lib.hid hb
  have HL := Lib.hid hb.1
  have hn : (n : Int) ≤ 9223372036854775807 := by have := hb.2.1; omega
  clear hb
  go_enter Try.func18, Try.ntmps18
  go_wp2_with fail
  go_loop [5, 12] (fun u i => ∃ (k acc : Nat), k ≤ n ∧ k ≤ 9 ∧ u = .int .u64 (acc : Nat) ∧ i = .int .i64 (k : Nat) ∧ Hid (dec (l.drop k) k acc = D) ∧ Hid (acc < 128 ^ k)) (fun _ i => n - (intOf i).toNat)
  case atStart => exact ⟨0, 0, Nat.zero_le _, Nat.zero_le _, rfl, rfl, hD, Lib.hid (by decide)⟩
  case round =>
    obtain ⟨k, acc, hk, hk9, rfl, rfl, HD, HA⟩ := hrel
    have c1 : (0 : Int) ≤ (k : Int) := by omega
    rcases Nat.lt_or_ge k n with h | h
    · have hkl : k < l.length := by rw [HL.out]; exact h
      obtain ⟨-, -, h0 | ⟨b, o, rfl, hb, hcell⟩⟩ := HB.out
      · omega
      · have e1 := hcell.out k hkl
        have c2 : (k : Int) < (n : Int) := by omega
        have HD2 : Hid (dec (l[k] :: l.drop (k + 1)) k acc = D) := Lib.hid (by rw [← drop_cons hkl]; exact HD.out)
        obtain ⟨ch, ech⟩ : ∃ ch, l[k] = ch := ⟨_, rfl⟩
        rw [ech] at e1 HD2
        have hb1 := byte_lt ch
        obtain ⟨x, ex⟩ : ∃ x, ch.toNat = x := ⟨_, rfl⟩
        rw [ex] at e1 hb1
        have EX := Lib.hid ex
        have d0 : (0 : Int) ≤ (x : Int) := by omega
        have d1 : (x : Int) < 256 := by omega
        have d2 : (k : Int) ≤ 9 := by omega
        clear ech ex hcell
        by_cases k9 : k = 9
        · have t1 : ((k : Int) == 9) = true := by (first | exact beq_iff_eq.2 (by omega) | exact beq_eq_false_iff_ne.2 (by omega))
          have t1' : (k == 9) = true := by (first | exact beq_iff_eq.2 (by omega) | exact beq_eq_false_iff_ne.2 (by omega))
          have t2 : decide ((0 : Int) < (k : Int)) = true := by (first | exact decide_eq_true (by omega) | exact decide_eq_false (by omega))
          have t2' : decide (0 < k) = true := by (first | exact decide_eq_true (by omega) | exact decide_eq_false (by omega))
          by_cases x1 : 1 < x
          · have u1 : decide ((1 : Int) < (x : Int)) = true := by (first | exact decide_eq_true (by omega) | exact decide_eq_false (by omega))
            have u1' : decide (1 < x) = true := by (first | exact decide_eq_true (by omega) | exact decide_eq_false (by omega))
            have HR : Hid (D = .bad 8) := Lib.hid (by rw [← HD2.out]; exact dec_bad (by rw [EX.out]; omega))
            clear hk hk9 hkl hb1
            (try clear x1)
            (try clear x0)
            (try clear k0)
            clear k9
            go_wp2_with fail
            go_ret3
            exact ⟨by rw [HR.out]; rfl, Below.refl _ _⟩
          · have u1 : decide ((1 : Int) < (x : Int)) = false := by (first | exact decide_eq_true (by omega) | exact decide_eq_false (by omega))
            have u1' : decide (1 < x) = false := by (first | exact decide_eq_true (by omega) | exact decide_eq_false (by omega))
            by_cases x0 : x = 0
            · have t3 : ((x : Int) == 0) = true := by (first | exact beq_iff_eq.2 (by omega) | exact beq_eq_false_iff_ne.2 (by omega))
              have t3' : (x == 0) = true := by (first | exact beq_iff_eq.2 (by omega) | exact beq_eq_false_iff_ne.2 (by omega))
              have HR : Hid (D = .bad 8) := Lib.hid (by rw [← HD2.out]; exact dec_bad (by rw [EX.out]; omega))
              clear hk hk9 hkl hb1
              (try clear x1)
              (try clear x0)
              (try clear k0)
              clear k9
              go_wp2_with fail
              go_ret3
              exact ⟨by rw [HR.out]; rfl, Below.refl _ _⟩
            · have t3 : ((x : Int) == 0) = false := by (first | exact beq_iff_eq.2 (by omega) | exact beq_eq_false_iff_ne.2 (by omega))
              have t3' : (x == 0) = false := by (first | exact beq_iff_eq.2 (by omega) | exact beq_eq_false_iff_ne.2 (by omega))
              have t4 : decide ((x : Int) < (128 : Int)) = true := by (first | exact decide_eq_true (by omega) | exact decide_eq_false (by omega))
              have t4' : decide (x < 128) = true := by (first | exact decide_eq_true (by omega) | exact decide_eq_false (by omega))
              have hx9 : k = 9 → x % 128 ≤ 1 := (by omega)
              have hsum := sum_lt HA.out hk9 hx9 (Nat.mod_lt x (by decide))
              have q1 := shl_fact hk9 hx9
              have q2 := or_fact HA.out hsum
              have q3 := Lib.hid (show x % 128 < 128 from Nat.mod_lt x (by decide))
              obtain ⟨Y, hY⟩ : ∃ Y, x % 128 * 128 ^ k = Y := ⟨_, rfl⟩
              rw [hY] at q1 q2 hsum
              obtain ⟨Z, hZ⟩ : ∃ Z, acc + Y = Z := ⟨_, rfl⟩
              rw [hZ] at q2 hsum
              have HS := Lib.hid hsum
              have hy0 : (0 : Int) ≤ (Y : Int) := (by omega)
              have hz0 : (0 : Int) ≤ (Z : Int) := (by omega)
              have hz1 : (Z : Int) < 18446744073709551616 := (by omega)
              have HR : Hid (D = .good Z (k + 1)) := Lib.hid (by rw [← HD2.out, dec_end (by rw [EX.out]; omega) (by rw [EX.out]; omega), EX.out, ← hZ, ← hY, Nat.mod_eq_of_lt (by omega)])
              clear hk hk9 hkl hb1 hY hZ hsum hx9
              (try clear x1)
              (try clear x0)
              (try clear k0)
              clear k9
              go_wp2_with fail
              refine (integer_any Z _ HS.out).mono ?_
              rintro e w2 ⟨rfl, rfl⟩
              go_wp2_with fail
              go_ret3
              exact ⟨by rw [HR.out]; rfl, Below.refl _ _⟩
        · have t1 : ((k : Int) == 9) = false := by (first | exact beq_iff_eq.2 (by omega) | exact beq_eq_false_iff_ne.2 (by omega))
          have t1' : (k == 9) = false := by (first | exact beq_iff_eq.2 (by omega) | exact beq_eq_false_iff_ne.2 (by omega))
          by_cases k0 : 0 < k
          · have t2 : decide ((0 : Int) < (k : Int)) = true := by (first | exact decide_eq_true (by omega) | exact decide_eq_false (by omega))
            have t2' : decide (0 < k) = true := by (first | exact decide_eq_true (by omega) | exact decide_eq_false (by omega))
            by_cases x0 : x = 0
            · have t3 : ((x : Int) == 0) = true := by (first | exact beq_iff_eq.2 (by omega) | exact beq_eq_false_iff_ne.2 (by omega))
              have t3' : (x == 0) = true := by (first | exact beq_iff_eq.2 (by omega) | exact beq_eq_false_iff_ne.2 (by omega))
              have HR : Hid (D = .bad 8) := Lib.hid (by rw [← HD2.out]; exact dec_bad (by rw [EX.out]; omega))
              clear hk hk9 hkl hb1
              (try clear x1)
              (try clear x0)
              (try clear k0)
              clear k9
              go_wp2_with fail
              go_ret3
              exact ⟨by rw [HR.out]; rfl, Below.refl _ _⟩
            · have t3 : ((x : Int) == 0) = false := by (first | exact beq_iff_eq.2 (by omega) | exact beq_eq_false_iff_ne.2 (by omega))
              have t3' : (x == 0) = false := by (first | exact beq_iff_eq.2 (by omega) | exact beq_eq_false_iff_ne.2 (by omega))
              by_cases x1 : x < 128
              · have t4 : decide ((x : Int) < (128 : Int)) = true := by (first | exact decide_eq_true (by omega) | exact decide_eq_false (by omega))
                have t4' : decide (x < 128) = true := by (first | exact decide_eq_true (by omega) | exact decide_eq_false (by omega))
                have hx9 : k = 9 → x % 128 ≤ 1 := (by omega)
                have hsum := sum_lt HA.out hk9 hx9 (Nat.mod_lt x (by decide))
                have q1 := shl_fact hk9 hx9
                have q2 := or_fact HA.out hsum
                have q3 := Lib.hid (show x % 128 < 128 from Nat.mod_lt x (by decide))
                obtain ⟨Y, hY⟩ : ∃ Y, x % 128 * 128 ^ k = Y := ⟨_, rfl⟩
                rw [hY] at q1 q2 hsum
                obtain ⟨Z, hZ⟩ : ∃ Z, acc + Y = Z := ⟨_, rfl⟩
                rw [hZ] at q2 hsum
                have HS := Lib.hid hsum
                have hy0 : (0 : Int) ≤ (Y : Int) := (by omega)
                have hz0 : (0 : Int) ≤ (Z : Int) := (by omega)
                have hz1 : (Z : Int) < 18446744073709551616 := (by omega)
                have HR : Hid (D = .good Z (k + 1)) := Lib.hid (by rw [← HD2.out, dec_end (by rw [EX.out]; omega) (by rw [EX.out]; omega), EX.out, ← hZ, ← hY, Nat.mod_eq_of_lt (by omega)])
                clear hk hk9 hkl hb1 hY hZ hsum hx9
                (try clear x1)
                (try clear x0)
                (try clear k0)
                clear k9
                go_wp2_with fail
                refine (integer_any Z _ HS.out).mono ?_
                rintro e w2 ⟨rfl, rfl⟩
                go_wp2_with fail
                go_ret3
                exact ⟨by rw [HR.out]; rfl, Below.refl _ _⟩
              · have t4 : decide ((x : Int) < (128 : Int)) = false := by (first | exact decide_eq_true (by omega) | exact decide_eq_false (by omega))
                have t4' : decide (x < 128) = false := by (first | exact decide_eq_true (by omega) | exact decide_eq_false (by omega))
                have hx9 : k = 9 → x % 128 ≤ 1 := (by omega)
                have hsum := sum_lt HA.out hk9 hx9 (Nat.mod_lt x (by decide))
                have q1 := shl_fact hk9 hx9
                have q2 := or_fact HA.out hsum
                have q3 := Lib.hid (show x % 128 < 128 from Nat.mod_lt x (by decide))
                obtain ⟨Y, hY⟩ : ∃ Y, x % 128 * 128 ^ k = Y := ⟨_, rfl⟩
                rw [hY] at q1 q2 hsum
                obtain ⟨Z, hZ⟩ : ∃ Z, acc + Y = Z := ⟨_, rfl⟩
                rw [hZ] at q2 hsum
                have HS := Lib.hid hsum
                have hy0 : (0 : Int) ≤ (Y : Int) := (by omega)
                have hz0 : (0 : Int) ≤ (Z : Int) := (by omega)
                have hz1 : (Z : Int) < 18446744073709551616 := (by omega)
                have HR : Hid (dec (l.drop (k + 1)) (k + 1) Z = D) := Lib.hid (by rw [← HD2.out, dec_next (by rw [EX.out]; omega) (by rw [EX.out]; omega), EX.out, ← hZ, ← hY, show x % 128 = x - 128 by omega])
                have HZ : Hid (Z < 128 ^ (k + 1)) := Lib.hid (by rw [← hZ, ← hY]; exact step_lt HA.out q3.out)
                have hk8 : k + 1 ≤ 9 := (by omega)
                clear hk hk9 hkl hb1 hY hZ hsum hx9
                (try clear x1)
                (try clear x0)
                (try clear k0)
                clear k9
                go_wp2_with fail
                go_round
                case rel => exact ⟨k + 1, Z, by omega, hk8, rfl, by go_num, HR, HZ⟩
                case measure => simp [intOf]; omega
          · have t2 : decide ((0 : Int) < (k : Int)) = false := by (first | exact decide_eq_true (by omega) | exact decide_eq_false (by omega))
            have t2' : decide (0 < k) = false := by (first | exact decide_eq_true (by omega) | exact decide_eq_false (by omega))
            by_cases x1 : x < 128
            · have t4 : decide ((x : Int) < (128 : Int)) = true := by (first | exact decide_eq_true (by omega) | exact decide_eq_false (by omega))
              have t4' : decide (x < 128) = true := by (first | exact decide_eq_true (by omega) | exact decide_eq_false (by omega))
              have hx9 : k = 9 → x % 128 ≤ 1 := (by omega)
              have hsum := sum_lt HA.out hk9 hx9 (Nat.mod_lt x (by decide))
              have q1 := shl_fact hk9 hx9
              have q2 := or_fact HA.out hsum
              have q3 := Lib.hid (show x % 128 < 128 from Nat.mod_lt x (by decide))
              obtain ⟨Y, hY⟩ : ∃ Y, x % 128 * 128 ^ k = Y := ⟨_, rfl⟩
              rw [hY] at q1 q2 hsum
              obtain ⟨Z, hZ⟩ : ∃ Z, acc + Y = Z := ⟨_, rfl⟩
              rw [hZ] at q2 hsum
              have HS := Lib.hid hsum
              have hy0 : (0 : Int) ≤ (Y : Int) := (by omega)
              have hz0 : (0 : Int) ≤ (Z : Int) := (by omega)
              have hz1 : (Z : Int) < 18446744073709551616 := (by omega)
              have HR : Hid (D = .good Z (k + 1)) := Lib.hid (by rw [← HD2.out, dec_end (by rw [EX.out]; omega) (by rw [EX.out]; omega), EX.out, ← hZ, ← hY, Nat.mod_eq_of_lt (by omega)])
              clear hk hk9 hkl hb1 hY hZ hsum hx9
              (try clear x1)
              (try clear x0)
              (try clear k0)
              clear k9
              go_wp2_with fail
              refine (integer_any Z _ HS.out).mono ?_
              rintro e w2 ⟨rfl, rfl⟩
              go_wp2_with fail
              go_ret3
              exact ⟨by rw [HR.out]; rfl, Below.refl _ _⟩
            · have t4 : decide ((x : Int) < (128 : Int)) = false := by (first | exact decide_eq_true (by omega) | exact decide_eq_false (by omega))
              have t4' : decide (x < 128) = false := by (first | exact decide_eq_true (by omega) | exact decide_eq_false (by omega))
              have hx9 : k = 9 → x % 128 ≤ 1 := (by omega)
              have hsum := sum_lt HA.out hk9 hx9 (Nat.mod_lt x (by decide))
              have q1 := shl_fact hk9 hx9
              have q2 := or_fact HA.out hsum
              have q3 := Lib.hid (show x % 128 < 128 from Nat.mod_lt x (by decide))
              obtain ⟨Y, hY⟩ : ∃ Y, x % 128 * 128 ^ k = Y := ⟨_, rfl⟩
              rw [hY] at q1 q2 hsum
              obtain ⟨Z, hZ⟩ : ∃ Z, acc + Y = Z := ⟨_, rfl⟩
              rw [hZ] at q2 hsum
              have HS := Lib.hid hsum
              have hy0 : (0 : Int) ≤ (Y : Int) := (by omega)
              have hz0 : (0 : Int) ≤ (Z : Int) := (by omega)
              have hz1 : (Z : Int) < 18446744073709551616 := (by omega)
              have HR : Hid (dec (l.drop (k + 1)) (k + 1) Z = D) := Lib.hid (by rw [← HD2.out, dec_next (by rw [EX.out]; omega) (by rw [EX.out]; omega), EX.out, ← hZ, ← hY, show x % 128 = x - 128 by omega])
              have HZ : Hid (Z < 128 ^ (k + 1)) := Lib.hid (by rw [← hZ, ← hY]; exact step_lt HA.out q3.out)
              have hk8 : k + 1 ≤ 9 := (by omega)
              clear hk hk9 hkl hb1 hY hZ hsum hx9
              (try clear x1)
              (try clear x0)
              (try clear k0)
              clear k9
              go_wp2_with fail
              go_round
              case rel => exact ⟨k + 1, Z, by omega, hk8, rfl, by go_num, HR, HZ⟩
              case measure => simp [intOf]; omega
    · obtain rfl : n = k := by omega
      have HR : Hid (D = .bad 7) := Lib.hid (by rw [← HD.out, List.drop_of_length_le (by rw [HL.out]; exact Nat.le_refl _)]; rfl)
      go_wp2_with fail
      go_ret3
      exact ⟨by rw [HR.out]; rfl, Below.refl _ _⟩
end Go.Proofs.Ytnfddeoddjmpkaa.Co
