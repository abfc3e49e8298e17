/-
  The contracts of math/bits as package frac uses them, and of its integers of 128 bits: times, plus, magnitude.
-/
import Derived.Test.YtnfddeoddjmpkabDoorBits
import Derived.Test.YtnfddeoddjmpkabDoorShelf
import Derived.Shelf.Spec.BitsCarry
import Derived.Lib.ItoaNum
namespace Go.Proofs.YtnfddeoddjmpkabDoor
open Go.RowKit
set_option maxHeartbeats 400000
theorem mul64_any (x y h l : Nat) (hx : x < 18446744073709551616) (hy : y < 18446744073709551616) (eh : x * y / 18446744073709551616 = h) (el : x * y % 18446744073709551616 = l) (w : World) :
    Calls Tryd.prog 28 #[.int .u64 x, .int .u64 y] w fun e w' => e = .returned (.tuple #[.int .u64 (h : Nat), .int .u64 (l : Nat)]) ∧ w = w' := by
  subst eh el
  exact (show Calls Tryd.prog 28 #[.int .u64 x, .int .u64 y] w fun e w' => e = .returned (.tuple #[.int .u64 ((x * y / 18446744073709551616 : Nat) : Int), .int .u64 ((x * y % 18446744073709551616 : Nat) : Int)]) ∧ w' = w from Any.bits_Mul64 Tryd.lays264 x y hx hy w).mono fun _ _ ⟨he, hw⟩ => ⟨he, hw.symm⟩
theorem lz_any (y : Nat) (h1 : 1 ≤ y) (h2 : y < 18446744073709551616) (w : World) :
    Calls Tryd.prog 52 #[.int .u64 y] w fun e w' => e = .returned (.int .i64 ((64 - Lib.bitLen y : Nat) : Int)) ∧ w = w' := by
  have hb := Lib.bitLen_le y 64 (by omega) h2
  have hc : ((64 - Lib.bitLen y : Nat) : Int) = 64 - ((Lib.bitLen y : Nat) : Int) := by omega
  rw [hc]
  clear hc
  have hl : Hid (∀ w : World, Calls Tryd.prog 74 #[.int .u64 y] w fun e w' => e = .returned (.int .i64 (Lib.bitLen y)) ∧ w = w') := fun w =>
    (show Calls Tryd.prog 74 #[.int .u64 y] w fun e w' => e = .returned (.int .i64 (Lib.bitLen y)) ∧ w' = w from Any.bits_Len64 Tryd.lays129 y w (by omega) (by omega)).mono fun _ _ ⟨he, hw⟩ => ⟨he, hw.symm⟩
  obtain ⟨b, eb⟩ : ∃ b, Lib.bitLen y = b := ⟨_, rfl⟩
  rw [eb] at hb hl ⊢
  clear eb
  go_enter Tryd.func52, Tryd.ntmps52
  go_wp2_with (go_at_call 74; refine (hl.out _).mono ?_; rintro e w' ⟨rfl, rfl⟩)
  go_ret
  exact ⟨rfl, rfl⟩
theorem bitLen_bounds (y : Nat) (h1 : 1 ≤ y) (h2 : y < 18446744073709551616) : 1 ≤ Lib.bitLen y ∧ Lib.bitLen y ≤ 64 ∧ 9223372036854775808 ≤ y * 2 ^ (64 - Lib.bitLen y) ∧ y * 2 ^ (64 - Lib.bitLen y) < 18446744073709551616 := by
  obtain ⟨b1, b2, b3⟩ : 1 ≤ Lib.bitLen y ∧ 2 ^ (Lib.bitLen y - 1) ≤ y ∧ y < 2 ^ Lib.bitLen y := Lib.bitLenAux_bounds 64 y h2 (by omega)
  have hb := Lib.bitLen_le y 64 (by omega) h2
  generalize Lib.bitLen y = b at *
  have e1 : 2 ^ (b - 1) * 2 ^ (64 - b) = 2 ^ 63 := by rw [← Nat.pow_add]; congr 1; omega
  have e2 : 2 ^ b * 2 ^ (64 - b) = 2 ^ 64 := by rw [← Nat.pow_add]; congr 1; omega
  refine ⟨b1, hb, ?_, ?_⟩
  · have := Nat.mul_le_mul_right (2 ^ (64 - b)) b2
    rw [e1] at this; exact this
  · have := Nat.mul_lt_mul_of_pos_right b3 (Nat.two_pow_pos (64 - b))
    rw [e2] at this; exact this
/-- Div64 where the quotient fits 64 bits and y is below 2^63. -/
theorem div64_any (hi lo y q r : Nat) (h1 : hi < y) (hl : lo < 18446744073709551616) (hy : y < 9223372036854775808) (eq : (hi * 18446744073709551616 + lo) / y = q) (er : (hi * 18446744073709551616 + lo) % y = r) (w : World) :
    Calls Tryd.prog 27 #[.int .u64 hi, .int .u64 lo, .int .u64 y] w (Quiet (.tuple #[.int .u64 (q : Nat), .int .u64 (r : Nat)]) w) := by
  rcases Nat.eq_zero_or_pos hi with rfl | h0
  · rw [Nat.zero_mul, Nat.zero_add] at eq er
    subst eq er
    exact div64_low lo y hl (by omega) (by omega) w
  · subst eq er
    obtain ⟨b1, b2, b3, b4⟩ := bitLen_bounds y (by omega) (by omega)
    have hs : 1 ≤ 64 - Lib.bitLen y := by
      rcases Nat.eq_or_lt_of_le b2 with e | e
      · rw [e] at b3; omega
      · omega
    exact (div64_high hi lo y (64 - Lib.bitLen y) h0 h1 hl hs (by omega) b3 b4 (fun w => lz_any y (by omega) (by omega) w) w).mono fun _ _ ⟨he, hw⟩ => ⟨he, 0, hw ▸ rfl⟩
theorem rem64_any (hi lo y r : Nat) (hh : hi < 18446744073709551616) (hl : lo < 18446744073709551616) (hy0 : 0 < y) (hy : y < 9223372036854775808) (er : (hi * 18446744073709551616 + lo) % y = r) (w : World) :
    Calls Tryd.prog 26 #[.int .u64 hi, .int .u64 lo, .int .u64 y] w (Quiet (.int .u64 (r : Nat)) w) := by
  have hm := Nat.mod_lt hi hy0
  have er : (hi % y * 18446744073709551616 + lo) % y = r := by
    rw [← er, Nat.add_mod, Nat.mul_mod, Nat.mod_mod, ← Nat.mul_mod, ← Nat.add_mod]
  obtain ⟨m, em⟩ : ∃ m, hi % y = m := ⟨_, rfl⟩
  rw [em] at hm er
  have c1 : (hi : Int) % (y : Int) = (m : Int) := by rw [← em]; exact (Int.natCast_emod _ _).symm
  have ER := Lib.hid er
  clear er em
  go_enter Tryd.func26, Tryd.ntmps26
  go_wp2_with fail
  refine (div64_any m lo y _ r hm hl hy rfl ER.out _).mono ?_
  rintro e w' ⟨rfl, n, rfl⟩
  go_wp2_with fail
  go_ret
  exact ⟨rfl, n, rfl⟩
theorem run_add (x y s k : Nat) (es : (x + y) % 18446744073709551616 = s) (ek : (x + y) / 18446744073709551616 = k) (w : World) :
    (callFunc 50 #[.int .u64 x, .int .u64 y, .int .u64 0]).run Tryd.prog w = .ok (.value (.tuple #[.int .u64 (s : Nat), .int .u64 (k : Nat)])) w := by
  rw [run_callFunc_extern (P := Tryd.prog) (e := add64Entry) Tryd.func50 (by kernel_rfl) (by kernel_rfl) (by kernel_rfl) (by kernel_rfl), run_add64 x y 0 (by omega) (by omega) (by omega) (by omega),
    show ((x : Int) + (y : Int) + 0) % 18446744073709551616 = (s : Int) by omega, show ((x : Int) + (y : Int) + 0) / 18446744073709551616 = (k : Int) by omega]
  rfl
theorem run_sub (x y b d k : Nat) (hb : b ≤ 1) (es : (x + 18446744073709551616 - y - b) % 18446744073709551616 = d) (ek : (if x < y + b then 1 else 0) = k) (w : World) :
    (callFunc 51 #[.int .u64 x, .int .u64 y, .int .u64 b]).run Tryd.prog w = .ok (.value (.tuple #[.int .u64 (d : Nat), .int .u64 (k : Nat)])) w := by
  rw [run_callFunc_extern (P := Tryd.prog) (e := sub64Entry) Tryd.func51 (by kernel_rfl) (by kernel_rfl) (by kernel_rfl) (by kernel_rfl), run_sub64 x y b hb, es, ek]
  rfl
theorem times_any (n d v : Int) (n0 : -9223372036854775808 ≤ n) (n1 : n ≤ 9223372036854775807) (d0 : 0 ≤ d) (d1 : d ≤ 9223372036854775807) (hv : n * d = v) (w : World) :
    Calls Tryd.prog 23 #[.int .i64 n, .int .i64 d] w (Gives (.agg #[.int .i64 (v / 18446744073709551616), .int .u64 (v % 18446744073709551616)]) w) := by
  obtain ⟨y, rfl⟩ := Int.eq_ofNat_of_zero_le d0
  rcases Int.lt_or_le n 0 with h | h
  · obtain ⟨x, ex⟩ := Int.eq_ofNat_of_zero_le (a := n + 18446744073709551616) (by omega)
    obtain ⟨p, ep⟩ : ∃ p, x * y = p := ⟨_, rfl⟩
    have hp : (p : Int) = v + 18446744073709551616 * (y : Int) := by
      rw [← ep, Int.natCast_mul, ← hv, show (x : Int) = n + 18446744073709551616 from ex.symm, Int.add_mul]
    have lo : v < 0 ∨ v = 0 := by
      rcases Nat.eq_zero_or_pos y with rfl | hy
      · right; rw [← hv]; simp
      · left; rw [← hv]; exact Int.mul_neg_of_neg_of_pos h (by omega)
    have up : -85070591730234615865843651857942052864 ≤ v := by
      rw [← hv]
      have : -9223372036854775808 * (y : Int) ≤ n * (y : Int) := Int.mul_le_mul_of_nonneg_right n0 (by omega)
      omega
    obtain ⟨a, ea⟩ : ∃ a, p / 18446744073709551616 = a := ⟨_, rfl⟩
    obtain ⟨b, eb⟩ : ∃ b, p % 18446744073709551616 = b := ⟨_, rfl⟩
    have c1 : IntKind.u64.wrap n = (x : Int) := by rw [IntKind.wrap_u64]; omega
    have M := Lib.hid (mul64_any x y a b (by omega) (by omega) (by rw [ep]; exact ea) (by rw [ep]; exact eb))
    have c2 : (b : Int) = v % 18446744073709551616 := by omega
    have c3 : IntKind.i64.wrap (IntKind.u64.wrap ((a : Int) - (y : Int))) = v / 18446744073709551616 := by rw [IntKind.wrap_u64, IntKind.wrap_i64]; omega
    rw [← c2]
    clear ex ep hp lo up ea eb c2 hv
    go_enter Tryd.func23, Tryd.ntmps23
    go_wp2_with (go_at_call 28; refine (M.out _).mono ?_; rintro e w' ⟨rfl, rfl⟩)
    exact bodyPost_ret (v := .agg #[.int .i64 (v / 18446744073709551616), .int .u64 b]) (by simp [results, Tryd.results23, go_sem]) rfl ⟨rfl, (Below.refl _ _).alloc (Nat.le_refl _) _⟩
  · obtain ⟨x, rfl⟩ := Int.eq_ofNat_of_zero_le h
    obtain ⟨p, ep⟩ : ∃ p, x * y = p := ⟨_, rfl⟩
    have hp : v = (p : Int) := by rw [← ep, Int.natCast_mul, ← hv]
    have up : p ≤ 85070591730234615847396907784232501249 := by rw [← ep]; exact Nat.mul_le_mul (by omega : x ≤ 9223372036854775807) (by omega : y ≤ 9223372036854775807)
    obtain ⟨a, ea⟩ : ∃ a, p / 18446744073709551616 = a := ⟨_, rfl⟩
    obtain ⟨b, eb⟩ : ∃ b, p % 18446744073709551616 = b := ⟨_, rfl⟩
    have M := Lib.hid (mul64_any x y a b (by omega) (by omega) (by rw [ep]; exact ea) (by rw [ep]; exact eb))
    have c2 : (b : Int) = v % 18446744073709551616 := by omega
    have c3 : (a : Int) = v / 18446744073709551616 := by omega
    have ha : a ≤ 4611686018427387904 := by omega
    rw [← c2, ← c3]
    clear ep hp up ea eb c2 c3 hv
    go_enter Tryd.func23, Tryd.ntmps23
    go_wp2_with (go_at_call 28; refine (M.out _).mono ?_; rintro e w' ⟨rfl, rfl⟩)
    exact bodyPost_ret (v := .agg #[.int .i64 a, .int .u64 b]) (by simp [results, Tryd.results23, go_sem]) rfl ⟨rfl, (Below.refl _ _).alloc (Nat.le_refl _) _⟩
def small (x : Int) : Prop := -21267647932558653966460912964485513216 ≤ x ∧ x ≤ 21267647932558653966460912964485513216
theorem plus_any (x y : Int) (hx : small x) (hy : small y) (w : World) :
    Calls Tryd.prog 24 #[.agg #[.int .i64 (x / 18446744073709551616), .int .u64 (x % 18446744073709551616)], .agg #[.int .i64 (y / 18446744073709551616), .int .u64 (y % 18446744073709551616)]] w (Gives (.agg #[.int .i64 ((x + y) / 18446744073709551616), .int .u64 ((x + y) % 18446744073709551616)]) w) := by
  obtain ⟨x0, x1⟩ := hx
  obtain ⟨y0, y1⟩ := hy
  obtain ⟨a, ea⟩ := Int.eq_ofNat_of_zero_le (a := x % 18446744073709551616) (by omega)
  obtain ⟨b, eb⟩ := Int.eq_ofNat_of_zero_le (a := y % 18446744073709551616) (by omega)
  obtain ⟨s, es⟩ : ∃ s, (a + b) % 18446744073709551616 = s := ⟨_, rfl⟩
  obtain ⟨k, ek⟩ : ∃ k, (a + b) / 18446744073709551616 = k := ⟨_, rfl⟩
  have R := run_add a b s k es ek
  obtain ⟨h, eh⟩ : ∃ h, x / 18446744073709551616 = h := ⟨_, rfl⟩
  obtain ⟨g, eg⟩ : ∃ g, y / 18446744073709551616 = g := ⟨_, rfl⟩
  have c1 : (x + y) % 18446744073709551616 = (s : Int) := by omega
  have c2 : (x + y) / 18446744073709551616 = h + g + (k : Int) := by omega
  have h0 : -1152921504606846976 ≤ h ∧ h ≤ 1152921504606846976 := by omega
  have g0 : -1152921504606846976 ≤ g ∧ g ≤ 1152921504606846976 := by omega
  have k0 : k ≤ 1 := by omega
  rw [ea, eb, eh, eg, c1, c2]
  clear ea eb eh eg c1 c2 es ek x0 x1 y0 y1
  obtain ⟨h0, h1⟩ := h0
  obtain ⟨g0, g1⟩ := g0
  go_enter Tryd.func24, Tryd.ntmps24
  go_wp2_with fail
  exact bodyPost_ret (v := .agg #[.int .i64 (h + g + (k : Int)), .int .u64 s]) (by simp [results, Tryd.results24, go_sem]) rfl ⟨rfl, by repeat (first | exact Below.refl _ _ | assumption | apply bl_alloc | apply bl_drewN | apply bl_drew | (refine bl_set ?_ (by first | (simp; done) | (simp; omega)) _) | (refine bl_call ?_ (by assumption)))⟩
theorem wmag_any (x : Int) (m : Nat) (hx : small x) (hm : x.natAbs = m) (w : World) :
    Calls Tryd.prog 25 #[.agg #[.int .i64 (x / 18446744073709551616), .int .u64 (x % 18446744073709551616)]] w (Gives (.tuple #[.int .u64 ((m / 18446744073709551616 : Nat) : Int), .int .u64 ((m % 18446744073709551616 : Nat) : Int)]) w) := by
  obtain ⟨x0, x1⟩ := hx
  obtain ⟨a, ea⟩ := Int.eq_ofNat_of_zero_le (a := x % 18446744073709551616) (by omega)
  obtain ⟨h, eh⟩ : ∃ h, x / 18446744073709551616 = h := ⟨_, rfl⟩
  obtain ⟨b, eb⟩ : ∃ b, m / 18446744073709551616 = b := ⟨_, rfl⟩
  obtain ⟨c, ec⟩ : ∃ c, m % 18446744073709551616 = c := ⟨_, rfl⟩
  have h0 : -1152921504606846976 ≤ h := by omega
  have h1 : h ≤ 1152921504606846976 := by omega
  rcases Int.lt_or_le h 0 with hn | hn
  · obtain ⟨g, eg⟩ := Int.eq_ofNat_of_zero_le (a := h + 18446744073709551616) (by omega)
    have R1 : ∀ w : World, (callFunc 51 #[.int .u64 0, .int .u64 (a : Int), .int .u64 0]).run Tryd.prog w = .ok (.value (.tuple #[.int .u64 (c : Int), .int .u64 ((if 0 < a then 1 else 0 : Nat) : Int)])) w :=
      fun w => run_sub 0 a 0 c (if 0 < a then 1 else 0) (by omega) (by omega) (by rw [Nat.add_zero]) w
    have R2 : ∀ w : World, (callFunc 51 #[.int .u64 0, .int .u64 (g : Int), .int .u64 ((if 0 < a then 1 else 0 : Nat) : Int)]).run Tryd.prog w = .ok (.value (.tuple #[.int .u64 (b : Int), .int .u64 ((if 0 < g + (if 0 < a then 1 else 0) then 1 else 0 : Nat) : Int)])) w :=
      fun w => run_sub 0 g (if 0 < a then 1 else 0) b (if 0 < g + (if 0 < a then 1 else 0) then 1 else 0) (by split <;> omega) (by split <;> omega) rfl w
    have c1 : IntKind.u64.wrap h = (g : Int) := by rw [IntKind.wrap_u64]; omega
    rw [ea, eh, eb, ec]
    have k0 : (if 0 < a then 1 else 0) ≤ 1 := by split <;> omega
    obtain ⟨k, ek⟩ : ∃ k, (if 0 < a then 1 else 0) = k := ⟨_, rfl⟩
    obtain ⟨j, ej⟩ : ∃ j, (if 0 < g + (if 0 < a then 1 else 0) then 1 else 0) = j := ⟨_, rfl⟩
    rw [ej] at R2
    rw [ek] at R1 R2
    clear ea eh eb ec ek ej eg hm k0
    go_enter Tryd.func25, Tryd.ntmps25
    go_wp2_with fail
    trace_state
    go_ret2
    exact ⟨rfl, by repeat (first | exact Below.refl _ _ | assumption | apply bl_alloc | apply bl_drewN | apply bl_drew | (refine bl_set ?_ (by first | (simp; done) | (simp; omega)) _) | (refine bl_call ?_ (by assumption)))⟩
  · rw [ea, eh, eb, ec]
    have e1 : (b : Int) = h := by omega
    have e2 : (c : Int) = (a : Int) := by omega
    rw [e1, e2]
    clear ea eh eb ec e1 e2 hm
    go_enter Tryd.func25, Tryd.ntmps25
    go_wp2_with fail
    go_quiet (fail)
    go_wp2_with fail
    go_ret2
    exact ⟨rfl, by repeat (first | exact Below.refl _ _ | assumption | apply bl_alloc | apply bl_drewN | apply bl_drew | (refine bl_set ?_ (by first | (simp; done) | (simp; omega)) _) | (refine bl_call ?_ (by assumption)))⟩
end Go.Proofs.YtnfddeoddjmpkabDoor
