/-
  The contracts of math/bits.Div64 and Rem64: the quotient and the rest of a number of 128 bits, by the library's own text.
-/
import Derived.Test.YtnfddeoddjmpkabDoorBase
import Derived.Laws.Bits64b
import Derived.Deep.DeepCutAuto
import Derived.Deep.CutBlock
namespace Go.Proofs.YtnfddeoddjmpkabDoor
open Go.RowKit
set_option maxHeartbeats 400000
theorem div64_low (lo y : Nat) (hl : lo < 18446744073709551616) (hy0 : 0 < y) (hy : y < 18446744073709551616) (w : World) :
    Calls Tryd.prog 27 #[.int .u64 ((0 : Nat) : Int), .int .u64 lo, .int .u64 y] w (Quiet (.tuple #[.int .u64 ((lo / y : Nat) : Int), .int .u64 ((lo % y : Nat) : Int)]) w) := by
  have e0 : ((0 : Nat) : Int) = 0 := rfl
  rw [e0]
  clear e0
  have e1 : ((y : Int) == 0) = false := by rw [beq_eq_false_iff_ne]; omega
  have e2 : IntKind.u64.wrap ((lo : Int) / (y : Int)) = (lo : Int) / (y : Int) := by
    have e : (lo : Int) / (y : Int) = ((lo / y : Nat) : Int) := (Int.natCast_ediv _ _).symm
    rw [IntKind.wrap_u64, e]
    have : lo / y ≤ lo := Nat.div_le_self _ _
    generalize lo / y = z at *
    omega
  go_enter Tryd.func27, Tryd.ntmps27
  go_wp2
  go_quiet (fail)
  go_wp2
  go_ret2
  exact ⟨rfl, _, rfl⟩
theorem wrap_id {n : Nat} (h : n < 18446744073709551616) : IntKind.u64.wrap (n : Int) = (n : Int) := by rw [IntKind.wrap_u64]; omega
theorem wrap_mul {a b c : Nat} (e : a * b = c) (h : c < 18446744073709551616) : IntKind.u64.wrap ((a : Int) * (b : Int)) = (c : Int) := by
  rw [← Int.natCast_mul, e]; exact wrap_id h
theorem wrap_pow {a s c : Nat} (e : a * 2 ^ s % 18446744073709551616 = c) : IntKind.u64.wrap ((a : Int) * 2 ^ s) = (c : Int) := by
  have : (a : Int) * 2 ^ s = ((a * 2 ^ s : Nat) : Int) := by rw [Int.natCast_mul, Int.natCast_pow]; rfl
  rw [this, IntKind.wrap_u64]; omega
theorem div_nat {a b c : Nat} (e : a / b = c) : (a : Int) / (b : Int) = (c : Int) := by rw [← e]; exact (Int.natCast_ediv _ _).symm
theorem div_pow {a s c : Nat} (e : a / 2 ^ s = c) : (a : Int) / 2 ^ s = (c : Int) := by
  rw [← e, Int.natCast_ediv, Int.natCast_pow]; rfl
theorem and_low {a c : Nat} (ha : a < 18446744073709551616) (e : a % 4294967296 = c) : bits BinOp.and IntKind.u64 (a : Int) 4294967295 = (c : Int) := by
  have h := bits_and_u64_nat a 4294967295 ha (by omega)
  have e2 : a &&& 4294967295 = a % 4294967296 := Nat.and_two_pow_sub_one_eq_mod a 32
  rw [e2, e] at h
  exact h
theorem or_nat {a b c : Nat} (ha : a < 18446744073709551616) (hb : b < 18446744073709551616) (e : a ||| b = c) : bits BinOp.or IntKind.u64 (a : Int) (b : Int) = (c : Int) := by
  rw [bits_or_u64_nat a b ha hb, e]
theorem wrap_rest {u v q Y R : Nat} (e : u * 4294967296 + v = q * Y + R) (hR : R < 18446744073709551616) :
    IntKind.u64.wrap (IntKind.u64.wrap (IntKind.u64.wrap ((u : Int) * 4294967296) + (v : Int)) - IntKind.u64.wrap ((q : Int) * (Y : Int))) = (R : Int) := by
  have h : (u : Int) * 4294967296 + (v : Int) - (q : Int) * (Y : Int) = (R : Int) := by rw [← Int.natCast_mul]; omega
  generalize (q : Int) * (Y : Int) = z at *
  generalize (u : Int) * 4294967296 = x at *
  simp only [IntKind.wrap_u64]
  omega
theorem rest_eq {x d R : Nat} (h1 : x - d = R) (h2 : d ≤ x) : x = d + R := by omega
set_option maxRecDepth 100000 in
set_option pp.deepTerms true in
set_option pp.maxSteps 10000000 in
theorem div64_high (hi lo y s : Nat) (h0 : 0 < hi) (h1 : hi < y) (hl : lo < 18446744073709551616) (s0 : 1 ≤ s) (s1 : s ≤ 63) (hya : 9223372036854775808 ≤ y * 2 ^ s) (hyb : y * 2 ^ s < 18446744073709551616)
    (hlz : Hid (∀ w : World, Calls Tryd.prog 52 #[.int .u64 y] w fun e w' => e = .returned (.int .i64 (s : Int)) ∧ w = w')) (w : World) :
    Calls Tryd.prog 27 #[.int .u64 hi, .int .u64 lo, .int .u64 y] w fun e w' => e = .returned (.tuple #[.int .u64 (((hi * 18446744073709551616 + lo) / y : Nat) : Int), .int .u64 (((hi * 18446744073709551616 + lo) % y : Nat) : Int)]) ∧ w = w' := by
  obtain ⟨K, eK⟩ : ∃ K, K = 2 ^ s := ⟨_, rfl⟩
  have hK0 : 0 < K := by rw [eK]; exact Nat.two_pow_pos s
  obtain ⟨b1, b2, b3, b4, b5, b6⟩ := div_parts eK s1 h1 hl (by rw [eK]; exact hyb)
  rw [← eK] at hya hyb
  obtain ⟨sh1, sh2⟩ := shifted (hi * 18446744073709551616 + lo) y K hK0
  rw [← sh1, ← sh2]
  obtain ⟨N, eN⟩ : ∃ N, (hi * 18446744073709551616 + lo) * K = N := ⟨_, rfl⟩
  rw [eN] at b5 b6 ⊢
  obtain ⟨Y, eY⟩ : ∃ Y, y * K = Y := ⟨_, rfl⟩
  rw [eY] at b3 hya hyb ⊢
  obtain ⟨A, eA⟩ : ∃ A, hi * K = A := ⟨_, rfl⟩
  rw [eA] at b1 b3 b4 b5
  obtain ⟨B, eB⟩ : ∃ B, lo / 2 ^ (64 - s) = B := ⟨_, rfl⟩
  rw [eB] at b2 b3 b4 b5
  obtain ⟨u, eu⟩ : ∃ u, A + B = u := ⟨_, rfl⟩
  rw [eu] at b3 b4 b5
  obtain ⟨V, eV⟩ : ∃ V, lo * K % 18446744073709551616 = V := ⟨_, rfl⟩
  rw [eV] at b6
  have hVa : V < 18446744073709551616 := by rw [← eV]; exact Nat.mod_lt _ (by omega)
  obtain ⟨y1, ey1⟩ : ∃ y1, Y / 4294967296 = y1 := ⟨_, rfl⟩
  obtain ⟨y0, ey0⟩ : ∃ y0, Y % 4294967296 = y0 := ⟨_, rfl⟩
  have y1a : y1 < 4294967296 := by omega
  have y1b : 2147483648 ≤ y1 := by omega
  have y0a : y0 < 4294967296 := by omega
  have eYY : Y = y1 * 4294967296 + y0 := by omega
  obtain ⟨v1, ev1⟩ : ∃ v1, V / 4294967296 = v1 := ⟨_, rfl⟩
  obtain ⟨v0, ev0⟩ : ∃ v0, V % 4294967296 = v0 := ⟨_, rfl⟩
  have v1a : v1 < 4294967296 := by omega
  have v0a : v0 < 4294967296 := by omega
  obtain ⟨t1, t2⟩ := two_digits N Y
  rw [show N / 4294967296 % 4294967296 = v1 by omega, show N % 4294967296 = v0 by omega, b5] at t1 t2
  obtain ⟨D1, eD1⟩ : ∃ D1, dig u v1 Y = D1 := ⟨_, rfl⟩
  obtain ⟨R1, eR1⟩ : ∃ R1, (u * 4294967296 + v1) % Y = R1 := ⟨_, rfl⟩
  rw [eD1, eR1] at t1
  rw [eR1] at t2
  obtain ⟨D0, eD0⟩ : ∃ D0, dig R1 v0 Y = D0 := ⟨_, rfl⟩
  rw [eD0] at t1
  rw [← t1, ← t2]
  have R1a : R1 < Y := by rw [← eR1]; exact Nat.mod_lt _ (by omega)
  obtain ⟨R0, eR0⟩ : ∃ R0, (R1 * 4294967296 + v0) % Y = R0 := ⟨_, rfl⟩
  have R0a : R0 < Y := by rw [← eR0]; exact Nat.mod_lt _ (by omega)
  rw [eR0]
  have D1a : D1 < 4294967296 := by rw [← eD1, eYY]; exact dig_lt (by omega) v1a
  have D0a : D0 < 4294967296 := by rw [← eD0, eYY]; exact dig_lt (by omega) v0a
  have r1 := dig_rest u v1 Y
  rw [eD1, eR1] at r1
  have r0 := dig_rest R1 v0 Y
  rw [eD0, eR0] at r0
  have g1 := guess_first (u := u) (v := v1) y1b y0a (by omega) v1a
  have g0 := guess_first (u := R1) (v := v0) y1b y0a (by omega) v0a
  -- the walk's own terms
  have c1 := wrap_pow (a := y) (s := s) (c := Y) (by rw [← eK, eY]; exact Nat.mod_eq_of_lt hyb)
  have c2 : (Y : Int) / 4294967296 = (y1 : Int) := div_nat ey1
  have c3 := and_low hyb ey0
  have c4 := wrap_pow (a := hi) (s := s) (c := A) (by rw [← eK, eA]; exact Nat.mod_eq_of_lt b1)
  have c5 := div_pow (a := lo) (s := 64 - s) (c := B) eB
  have c6 := or_nat b1 (by omega : B < 18446744073709551616) b4
  have c7 := wrap_pow (a := lo) (s := s) (c := V) (by rw [← eK]; exact eV)
  have c8 : (V : Int) / 4294967296 = (v1 : Int) := div_nat ev1
  have c9 := and_low hVa ev0
  have c10 := wrap_rest (rest_eq r1.1 r1.2) (Nat.lt_trans R1a hyb)
  have c11 := wrap_rest (rest_eq r0.1 r0.2) (Nat.lt_trans R0a hyb)
  have c12 := div_pow (a := R0) (s := s) (c := R0 / K) (by rw [eK])
  obtain ⟨q1, eq1⟩ : ∃ q1, u / y1 = q1 := ⟨_, rfl⟩
  obtain ⟨p1, ep1⟩ : ∃ p1, u % y1 = p1 := ⟨_, rfl⟩
  obtain ⟨q0, eq0⟩ : ∃ q0, R1 / y1 = q0 := ⟨_, rfl⟩
  obtain ⟨p0, ep0⟩ : ∃ p0, R1 % y1 = p0 := ⟨_, rfl⟩
  rw [eq1, ep1] at g1
  rw [eq0, ep0] at g0
  have m1 : q1 * y1 + p1 = u := by rw [← eq1, ← ep1]; exact Nat.div_add_mod' u y1
  have m0 : q0 * y1 + p0 = R1 := by rw [← eq0, ← ep0]; exact Nat.div_add_mod' R1 y1
  have p1a : p1 < y1 := by rw [← ep1]; exact Nat.mod_lt _ (by omega)
  have p0a : p0 < y1 := by rw [← ep0]; exact Nat.mod_lt _ (by omega)
  obtain ⟨f1, ef1⟩ : ∃ f1, q1 * y1 = f1 := ⟨_, rfl⟩
  obtain ⟨f0, ef0⟩ : ∃ f0, q0 * y1 = f0 := ⟨_, rfl⟩
  rw [ef1] at m1
  rw [ef0] at m0
  have c13 := div_nat eq1
  have c14 := div_nat eq0
  have c15 : (q1 : Int) * (y1 : Int) = (f1 : Int) := by rw [← Int.natCast_mul, ef1]
  have c16 : (q0 : Int) * (y1 : Int) = (f0 : Int) := by rw [← Int.natCast_mul, ef0]
  have c17 : (u : Int) - (f1 : Int) = (p1 : Int) := by omega
  have c18 : (R1 : Int) - (f0 : Int) = (p0 : Int) := by omega
  have q1a : q1 ≤ 4294967297 := g1.2.2
  have q0a : q0 ≤ 4294967297 := g0.2.2
  have f1a : f1 ≤ u := by omega
  have f0a : f0 ≤ R1 := by omega
  have E1 := Lib.hid eD1
  have E0 := Lib.hid eD0
  have EY := Lib.hid eYY
  have G1 := Lib.hid g1
  have G0 := Lib.hid g0
  clear eK sh1 sh2 eN eY eA eB eu eV ey1 ey0 eYY ev1 ev0 t1 t2 eD1 eR1 eD0 eR0 r1 r0 g1 g0 b4 b5 b6 eq1 ep1 eq0 ep0 ef1 ef0 m1 m0
  go_enter Tryd.func27, Tryd.ntmps27
  go_upto_block 0 with (go_at_call 52; refine (hlz.out _).mono ?_; rintro e w' ⟨rfl, rfl⟩)
  go_cut [15, 16] (fun q _ wx => q = .int .u64 (D1 : Nat) ∧ w = wx)
  case first =>
    clear c1 c2 c3 c4 c5 c6 c7 c8 c9 c10 c11 c12 c13 c14 c15 c16 c17 c18 b1 b2 f1a f0a q1a q0a hVa R0a D0a p0a hl h0 h1 hlz
    go_wp2_with fail
    go_loop [15, 16] (fun q r => ∃ a b : Nat, q = .int .u64 a ∧ r = .int .u64 b ∧ b < 4294967296 ∧ Guess u v1 y1 y0 a b) (fun q _ => (intOf q).toNat)
    case atStart => exact ⟨_, _, rfl, rfl, by omega, G1.out⟩
    case round =>
      obtain ⟨a, b, rfl, rfl, hb, hg⟩ := hrel
      have ha := hg.2.2
      have HG := Lib.hid hg
      clear hg
      obtain ⟨p, ep⟩ : ∃ p, a * y0 = p := ⟨_, rfl⟩
      have cp : (a : Int) * (y0 : Int) = (p : Int) := by rw [← Int.natCast_mul, ep]
      have pa : a < 4294967296 → p < 18446744073709551616 := fun h => by rw [← ep]; exact Nat.mul_lt_mul'' h y0a
      have EP := Lib.hid ep
      clear ep
      by_cases t1 : 4294967296 ≤ a ∨ a < 4294967296 ∧ 4294967296 * b + v1 < p
      · have t0 : 4294967296 ≤ a ∨ 4294967296 * b + v1 < a * y0 := by rw [EP.out]; omega
        have NX := Lib.hid (guess_next (by have := EY.out; omega) v1a HG.out t0)
        have hp := guess_pos t0
        clear t0
        by_cases t2 : 4294967296 ≤ b + y1
        · have BR := Lib.hid (guess_break (by have := EY.out; omega) y0a NX.out.1 NX.out.2 t2)
          have ed : ((a : Int) - 1) = (D1 : Int) := by have := BR.out; rw [← EY.out, E1.out] at this; omega
          rcases t1 with t1 | ⟨t1, t3⟩
          · clear pa
            have k1 : decide ((4294967296 : Int) ≤ (a : Int)) = true := by simp; omega
            have k2 : decide ((4294967296 : Int) ≤ (b : Int) + (y1 : Int)) = true := by simp; omega
            clear t1 t2
            go_wp2_with fail
            go_meet
            exact ⟨rfl, rfl⟩
          · have pa := pa t1
            have k1 : decide ((4294967296 : Int) ≤ (a : Int)) = false := by simp; omega
            have k2 : decide ((4294967296 : Int) ≤ (b : Int) + (y1 : Int)) = true := by simp; omega
            have k3 : decide ((4294967296 : Int) * (b : Int) + (v1 : Int) < (p : Int)) = true := by simp; omega
            clear t1 t3 t2
            go_wp2_with fail
            go_meet
            exact ⟨rfl, rfl⟩
        · rcases t1 with t1 | ⟨t1, t3⟩
          · clear pa
            have k1 : decide ((4294967296 : Int) ≤ (a : Int)) = true := by simp; omega
            have k2 : decide ((4294967296 : Int) ≤ (b : Int) + (y1 : Int)) = false := by simp; omega
            have T2 := Lib.hid t2
            clear t1 t2
            go_wp2_with fail
            go_round
            case rel => exact ⟨a - 1, b + y1, by go_num, by go_num, by have := T2.out; omega, NX.out.1⟩
            case measure => simp [intOf]; omega
          · have pa := pa t1
            have k1 : decide ((4294967296 : Int) ≤ (a : Int)) = false := by simp; omega
            have k2 : decide ((4294967296 : Int) ≤ (b : Int) + (y1 : Int)) = false := by simp; omega
            have k3 : decide ((4294967296 : Int) * (b : Int) + (v1 : Int) < (p : Int)) = true := by simp; omega
            have T2 := Lib.hid t2
            clear t1 t3 t2
            go_wp2_with fail
            go_round
            case rel => exact ⟨a - 1, b + y1, by go_num, by go_num, by have := T2.out; omega, NX.out.1⟩
            case measure => simp [intOf]; omega
      · have t4 : a < 4294967296 := by omega
        have t5 : p ≤ 4294967296 * b + v1 := by omega
        have pa := pa t4
        have DN := Lib.hid (guess_done (u := u) (v := v1) (by have := EY.out; omega) HG.out (by rw [EP.out]; exact t5))
        have ed : a = D1 := by have := DN.out; rw [← EY.out, E1.out] at this; exact this
        obtain rfl : D1 = a := ed.symm
        clear t1 ed
        have k1 : decide ((4294967296 : Int) ≤ (D1 : Int)) = false := by simp; omega
        have k3 : decide ((4294967296 : Int) * (b : Int) + (v1 : Int) < (p : Int)) = false := by simp; omega
        clear t4 t5
        go_wp2_with fail
        go_meet
        exact ⟨rfl, rfl⟩
  case rest =>
    obtain ⟨rfl, rfl⟩ := hcut
    clear c1 c2 c3 c4 c5 c6 c7 c8 c9 c13 c15 c17 b1 b2 f1a q1a hVa p1a hl h0 h1 hlz G1
    go_upto_block 2 with (fail)
    go_cut [18, 16] (fun q _ wx => q = .int .u64 (D0 : Nat) ∧ w = wx)
    case first =>
      clear c10 c11 c12 c14 c16 c18 f0a q0a R0a D1a b3
      go_wp2_with fail
      go_loop [18, 16] (fun q r => ∃ a b : Nat, q = .int .u64 a ∧ r = .int .u64 b ∧ b < 4294967296 ∧ Guess R1 v0 y1 y0 a b) (fun q _ => (intOf q).toNat)
      case atStart => exact ⟨_, _, rfl, rfl, by omega, G0.out⟩
      case round =>
        obtain ⟨a, b, rfl, rfl, hb, hg⟩ := hrel
        have ha := hg.2.2
        have HG := Lib.hid hg
        clear hg
        obtain ⟨p, ep⟩ : ∃ p, a * y0 = p := ⟨_, rfl⟩
        have cp : (a : Int) * (y0 : Int) = (p : Int) := by rw [← Int.natCast_mul, ep]
        have pa : a < 4294967296 → p < 18446744073709551616 := fun h => by rw [← ep]; exact Nat.mul_lt_mul'' h y0a
        have EP := Lib.hid ep
        clear ep
        by_cases t1 : 4294967296 ≤ a ∨ a < 4294967296 ∧ 4294967296 * b + v0 < p
        · have t0 : 4294967296 ≤ a ∨ 4294967296 * b + v0 < a * y0 := by rw [EP.out]; omega
          have NX := Lib.hid (guess_next (by have := EY.out; omega) v0a HG.out t0)
          have hp := guess_pos t0
          clear t0
          by_cases t2 : 4294967296 ≤ b + y1
          · have BR := Lib.hid (guess_break (by have := EY.out; omega) y0a NX.out.1 NX.out.2 t2)
            have ed : ((a : Int) - 1) = (D0 : Int) := by have := BR.out; rw [← EY.out, E0.out] at this; omega
            rcases t1 with t1 | ⟨t1, t3⟩
            · clear pa
              have k1 : decide ((4294967296 : Int) ≤ (a : Int)) = true := by simp; omega
              have k2 : decide ((4294967296 : Int) ≤ (b : Int) + (y1 : Int)) = true := by simp; omega
              clear t1 t2
              go_wp2_with fail
              go_meet
              exact ⟨rfl, rfl⟩
            · have pa := pa t1
              have k1 : decide ((4294967296 : Int) ≤ (a : Int)) = false := by simp; omega
              have k2 : decide ((4294967296 : Int) ≤ (b : Int) + (y1 : Int)) = true := by simp; omega
              have k3 : decide ((4294967296 : Int) * (b : Int) + (v0 : Int) < (p : Int)) = true := by simp; omega
              clear t1 t3 t2
              go_wp2_with fail
              go_meet
              exact ⟨rfl, rfl⟩
          · rcases t1 with t1 | ⟨t1, t3⟩
            · clear pa
              have k1 : decide ((4294967296 : Int) ≤ (a : Int)) = true := by simp; omega
              have k2 : decide ((4294967296 : Int) ≤ (b : Int) + (y1 : Int)) = false := by simp; omega
              have T2 := Lib.hid t2
              clear t1 t2
              go_wp2_with fail
              go_round
              case rel => exact ⟨a - 1, b + y1, by go_num, by go_num, by have := T2.out; omega, NX.out.1⟩
              case measure => simp [intOf]; omega
            · have pa := pa t1
              have k1 : decide ((4294967296 : Int) ≤ (a : Int)) = false := by simp; omega
              have k2 : decide ((4294967296 : Int) ≤ (b : Int) + (y1 : Int)) = false := by simp; omega
              have k3 : decide ((4294967296 : Int) * (b : Int) + (v0 : Int) < (p : Int)) = true := by simp; omega
              have T2 := Lib.hid t2
              clear t1 t3 t2
              go_wp2_with fail
              go_round
              case rel => exact ⟨a - 1, b + y1, by go_num, by go_num, by have := T2.out; omega, NX.out.1⟩
              case measure => simp [intOf]; omega
        · have t4 : a < 4294967296 := by omega
          have t5 : p ≤ 4294967296 * b + v0 := by omega
          have pa := pa t4
          have DN := Lib.hid (guess_done (u := R1) (v := v0) (by have := EY.out; omega) HG.out (by rw [EP.out]; exact t5))
          have ed : a = D0 := by have := DN.out; rw [← EY.out, E0.out] at this; exact this
          obtain rfl : D0 = a := ed.symm
          clear t1 ed
          have k1 : decide ((4294967296 : Int) ≤ (D0 : Int)) = false := by simp; omega
          have k3 : decide ((4294967296 : Int) * (b : Int) + (v0 : Int) < (p : Int)) = false := by simp; omega
          clear t4 t5
          go_wp2_with fail
          go_meet
          exact ⟨rfl, rfl⟩
    case rest =>
      obtain ⟨rfl, rfl⟩ := hcut
      go_wp2_with fail
      trace_state
      go_ret2
      exact ⟨rfl, rfl⟩
end Go.Proofs.YtnfddeoddjmpkabDoor
