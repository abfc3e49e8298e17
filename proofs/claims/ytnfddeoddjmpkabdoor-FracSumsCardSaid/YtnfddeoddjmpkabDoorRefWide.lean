/-
  The contracts of the reference's natural numbers of 128 bits: Size, Less, Plus, Minus, bit, Scale, Times.
-/
import Derived.Test.YtnfddeoddjmpkabDoorWide
namespace Go.Proofs.YtnfddeoddjmpkabDoor
open Go.RowKit
set_option maxHeartbeats 1000000
/-- h and l are the two halves of n. -/
def WV (h l n : Nat) : Prop := l < 18446744073709551616 ∧ h * 18446744073709551616 + l = n
theorem wv (n : Nat) : ∃ h l, WV h l n := ⟨n / 18446744073709551616, n % 18446744073709551616, by omega, by omega⟩
theorem wv_eq {h l n h2 l2 : Nat} (a : WV h l n) (b : WV h2 l2 n) : h = h2 ∧ l = l2 := by unfold WV at *; omega
theorem wv_zero : WV 0 0 0 := ⟨by omega, by omega⟩
theorem wv_low {n : Nat} (h : n < 18446744073709551616) : WV 0 n n := ⟨h, by omega⟩
theorem size_any (n : Int) (n0 : -9223372036854775808 ≤ n) (n1 : n ≤ 9223372036854775807) (w : World) : Calls Tryd.prog 49 #[.int .i64 n] w fun e w' => e = .returned (.int .u64 (absN n : Nat)) ∧ w = w' := by
  unfold absN
  rcases Int.lt_or_le n 0 with h | h
  · go_enter Tryd.func49, Tryd.ntmps49
    go_wp2
    go_ret
    exact ⟨ret_int (by first | (rw [IntKind.wrap_u64, IntKind.wrap_u64]; omega) | (rw [IntKind.wrap_u64]; omega) | omega), rfl⟩
  · go_enter Tryd.func49, Tryd.ntmps49
    go_wp2
    go_ret
    exact ⟨ret_int (by omega), rfl⟩
def ltB (x y : Nat) : Bool := decide (x < y)
theorem less_any {xh xl x yh yl y : Nat} (hx : WV xh xl x) (hy : WV yh yl y) (w : World) :
    Calls Tryd.prog 71 #[.agg #[.int .u64 (xh : Nat), .int .u64 (xl : Nat)], .agg #[.int .u64 (yh : Nat), .int .u64 (yl : Nat)]] w (Gives (.bool (ltB x y)) w) := by
  unfold WV at hx hy
  have hc : (x < y ∧ (xh < yh ∨ xh = yh ∧ xl < yl)) ∨ (¬ x < y ∧ (yh < xh ∨ xh = yh ∧ yl ≤ xl)) := by omega
  unfold ltB
  rcases hc with ⟨h, hc⟩ | ⟨h, hc⟩
  · rw [show decide (x < y) = true by simpa using h]
    clear h hx hy
    rcases hc with h | ⟨rfl, h⟩
    · have k : decide (xh < yh) = true := by simp; omega
      go_enter Tryd.func71, Tryd.ntmps71
      go_wp2
      go_ret
      exact ⟨rfl, by repeat (first | exact Below.refl _ _ | assumption | apply bl_alloc | apply bl_drewN | apply bl_drew | (refine bl_set ?_ (by first | (simp; done) | (simp; omega)) _) | (refine bl_call ?_ (by assumption)))⟩
    · have k : decide (xl < yl) = true := by simp; omega
      go_enter Tryd.func71, Tryd.ntmps71
      go_wp2
      go_ret
      exact ⟨rfl, by repeat (first | exact Below.refl _ _ | assumption | apply bl_alloc | apply bl_drewN | apply bl_drew | (refine bl_set ?_ (by first | (simp; done) | (simp; omega)) _) | (refine bl_call ?_ (by assumption)))⟩
  · rw [show decide (x < y) = false by simpa using h]
    clear h hx hy
    rcases hc with h | ⟨rfl, h⟩
    · have k : decide (xh < yh) = false := by simp; omega
      have k2 : ((xh : Int) == (yh : Int)) = false := by rw [beq_eq_false_iff_ne]; omega
      go_enter Tryd.func71, Tryd.ntmps71
      go_wp2
      go_ret
      exact ⟨rfl, by repeat (first | exact Below.refl _ _ | assumption | apply bl_alloc | apply bl_drewN | apply bl_drew | (refine bl_set ?_ (by first | (simp; done) | (simp; omega)) _) | (refine bl_call ?_ (by assumption)))⟩
    · have k : decide (xl < yl) = false := by simp; omega
      go_enter Tryd.func71, Tryd.ntmps71
      go_wp2
      go_ret
      exact ⟨rfl, by repeat (first | exact Below.refl _ _ | assumption | apply bl_alloc | apply bl_drewN | apply bl_drew | (refine bl_set ?_ (by first | (simp; done) | (simp; omega)) _) | (refine bl_call ?_ (by assumption)))⟩
theorem rplus_any {xh xl x yh yl y zh zl : Nat} (hx : WV xh xl x) (hy : WV yh yl y) (hz : WV zh zl (x + y)) (hb : x + y < 340282366920938463463374607431768211456) (w : World) :
    Calls Tryd.prog 70 #[.agg #[.int .u64 (xh : Nat), .int .u64 (xl : Nat)], .agg #[.int .u64 (yh : Nat), .int .u64 (yl : Nat)]] w (Gives (.agg #[.int .u64 (zh : Nat), .int .u64 (zl : Nat)]) w) := by
  unfold WV at hx hy hz
  have hc : (xh + yh = zh ∧ xl + yl = zl) ∨ (xh + yh + 1 = zh ∧ xl + yl = zl + 18446744073709551616 ∧ zl < xl) := by omega
  have z1 : zh < 18446744073709551616 := by omega
  have z2 : zl < 18446744073709551616 := by omega
  have x2 : xl < 18446744073709551616 := by omega
  have y2 : yl < 18446744073709551616 := by omega
  clear hx hy hz hb
  rcases hc with ⟨rfl, rfl⟩ | ⟨rfl, h1, h2⟩
  · have c1 : IntKind.u64.wrap ((xl : Int) + (yl : Int)) = ((xl + yl : Nat) : Int) := by rw [IntKind.wrap_u64]; omega
    have k : decide ((xl : Int) + (yl : Int) < (xl : Int)) = false := by simp; omega
    go_enter Tryd.func70, Tryd.ntmps70
    go_wp2
    exact bodyPost_ret (v := .agg #[.int .u64 ((xh : Int) + (yh : Int)), .int .u64 ((xl : Int) + (yl : Int))]) (by simp [results, Tryd.results70, go_sem]) rfl ⟨rfl, by repeat (first | exact Below.refl _ _ | assumption | apply bl_alloc | apply bl_drewN | apply bl_drew | (refine bl_set ?_ (by first | (simp; done) | (simp; omega)) _) | (refine bl_call ?_ (by assumption)))⟩
  · have c1 : IntKind.u64.wrap ((xl : Int) + (yl : Int)) = (zl : Int) := by rw [IntKind.wrap_u64]; omega
    have k : decide (zl < xl) = true := by simp; omega
    clear h1 h2
    go_enter Tryd.func70, Tryd.ntmps70
    go_wp2
    exact bodyPost_ret (v := .agg #[.int .u64 ((xh : Int) + (yh : Int) + 1), .int .u64 (zl : Int)]) (by simp [results, Tryd.results70, go_sem]) rfl ⟨rfl, by repeat (first | exact Below.refl _ _ | assumption | apply bl_alloc | apply bl_drewN | apply bl_drew | (refine bl_set ?_ (by first | (simp; done) | (simp; omega)) _) | (refine bl_call ?_ (by assumption)))⟩
theorem rminus_any {xh xl x yh yl y zh zl : Nat} (hx : WV xh xl x) (hy : WV yh yl y) (hyx : y ≤ x) (hz : WV zh zl (x - y)) (hb : x < 340282366920938463463374607431768211456) (w : World) :
    Calls Tryd.prog 72 #[.agg #[.int .u64 (xh : Nat), .int .u64 (xl : Nat)], .agg #[.int .u64 (yh : Nat), .int .u64 (yl : Nat)]] w (Gives (.agg #[.int .u64 (zh : Nat), .int .u64 (zl : Nat)]) w) := by
  unfold WV at hx hy hz
  have hc : ((xh : Int) - (yh : Int) = (zh : Int) ∧ (xl : Int) - (yl : Int) = (zl : Int) ∧ yl ≤ xl) ∨ ((xh : Int) - (yh : Int) = (zh : Int) + 1 ∧ (xl : Int) - (yl : Int) = (zl : Int) - 18446744073709551616 ∧ xl < yl) := by omega
  have z1 : zh < 18446744073709551616 := by omega
  have z2 : zl < 18446744073709551616 := by omega
  have x1 : xh < 18446744073709551616 := by omega
  have x2 : xl < 18446744073709551616 := by omega
  have y2 : yl < 18446744073709551616 := by omega
  have yx : yh ≤ xh := by omega
  clear hx hy hz hb hyx
  rcases hc with ⟨h0, h1, h2⟩ | ⟨h0, h1, h2⟩
  · have k : decide (xl < yl) = false := by simp; omega
    clear h2
    go_enter Tryd.func72, Tryd.ntmps72
    go_wp2
    exact bodyPost_ret (v := .agg #[.int .u64 (zh : Nat), .int .u64 (zl : Nat)]) (by simp [results, Tryd.results72, go_sem]) rfl ⟨rfl, by repeat (first | exact Below.refl _ _ | assumption | apply bl_alloc | apply bl_drewN | apply bl_drew | (refine bl_set ?_ (by first | (simp; done) | (simp; omega)) _) | (refine bl_call ?_ (by assumption)))⟩
  · have c1 : IntKind.u64.wrap ((xl : Int) - (yl : Int)) = (zl : Int) := by rw [IntKind.wrap_u64]; omega
    have k : decide (xl < yl) = true := by simp; omega
    have c2 : (xh : Int) - (yh : Int) - 1 = (zh : Int) := by omega
    have c3 : (zh : Int) + 1 - 1 = (zh : Int) := by omega
    clear h1 h2
    go_enter Tryd.func72, Tryd.ntmps72
    go_wp2
    exact bodyPost_ret (v := .agg #[.int .u64 (zh : Nat), .int .u64 (zl : Nat)]) (by simp [results, Tryd.results72, go_sem]) rfl ⟨rfl, by repeat (first | exact Below.refl _ _ | assumption | apply bl_alloc | apply bl_drewN | apply bl_drew | (refine bl_set ?_ (by first | (simp; done) | (simp; omega)) _) | (refine bl_call ?_ (by assumption)))⟩
theorem bit_any {h l n : Nat} (hn : WV h l n) (k c : Nat) (hk : k < 128) (hc : n / 2 ^ k % 2 = c) (w : World) :
    Calls Tryd.prog 82 #[.agg #[.int .u64 (h : Nat), .int .u64 (l : Nat)], .int .i64 (k : Nat)] w (Gives (.int .u64 (c : Nat)) w) := by
  obtain ⟨l1, en⟩ := hn
  by_cases h64 : 64 ≤ k
  · have e : h / 2 ^ (k - 64) % 2 = c := by
      rw [← hc, ← bit_high n k h64]; congr 2; omega
    have c1 : (h : Int) / 2 ^ (k - 64) % 2 = (c : Int) := by
      have : (h : Int) / 2 ^ (k - 64) = ((h / 2 ^ (k - 64) : Nat) : Int) := (div_pow (a := h) (s := k - 64) rfl)
      rw [this, ← e]; rfl
    obtain ⟨j, ej⟩ : ∃ j, k - 64 = j := ⟨_, rfl⟩
    rw [ej] at c1
    obtain rfl : k = j + 64 := by omega
    clear en hc e ej
    go_enter Tryd.func82, Tryd.ntmps82
    go_wp2
    go_ret
    exact ⟨ret_int (by first | exact c1 | omega), by repeat (first | exact Below.refl _ _ | assumption | apply bl_alloc | apply bl_drewN | apply bl_drew | (refine bl_set ?_ (by first | (simp; done) | (simp; omega)) _) | (refine bl_call ?_ (by assumption)))⟩
  · have e : l / 2 ^ k % 2 = c := by
      rw [← hc, ← bit_low n k (by omega)]; congr 2; omega
    have c1 : (l : Int) / 2 ^ k % 2 = (c : Int) := by
      have : (l : Int) / 2 ^ k = ((l / 2 ^ k : Nat) : Int) := (div_pow (a := l) (s := k) rfl)
      rw [this, ← e]; rfl
    clear en hc e
    go_enter Tryd.func82, Tryd.ntmps82
    go_wp2
    go_ret
    exact ⟨ret_int (by first | exact c1 | omega), by repeat (first | exact Below.refl _ _ | assumption | apply bl_alloc | apply bl_drewN | apply bl_drew | (refine bl_set ?_ (by first | (simp; done) | (simp; omega)) _) | (refine bl_call ?_ (by assumption)))⟩
end Go.Proofs.YtnfddeoddjmpkabDoor
