/-
  Words for slices of ints in memory; the contracts of package dist's between, allBetween, sum, weighted, of slices.Equal, and of the reference's between, Sum, sameInts.
-/
import Derived.Test.YtonlmnlpofgccaaGreatWide
import Derived.Test.YtonlmnlpofgccaaGreatText
namespace Go.Proofs.YtonlmnlpofgccaaGreat.Di
open Go.RowKit
set_option maxHeartbeats 1000000
def inB (lo n hi : Int) : Bool := decide (lo ≤ n) && decide (n ≤ hi)
def allB (lo hi : Int) (V : Nat → Int) : Nat → Bool
  | 0 => true
  | k + 1 => allB lo hi V k && inB lo (V k) hi
def sumT (W : Nat → Int) : Nat → Int
  | 0 => 0
  | k + 1 => sumT W k + W k
def sumP (V W : Nat → Int) : Nat → Int
  | 0 => 0
  | k + 1 => sumP V W k + V k * W k
def eqTo (V W : Nat → Int) : Nat → Bool
  | 0 => true
  | k + 1 => eqTo V W k && (V k == W k)
def eqL (n m : Nat) (V W : Nat → Int) : Bool := n == m && eqTo V W n
theorem allB_false {lo hi : Int} {V : Nat → Int} {k n : Nat} (h : allB lo hi V k = false) (hk : k ≤ n) : allB lo hi V n = false := by
  induction n with
  | zero => obtain rfl : k = 0 := by omega
            exact h
  | succ m ih =>
    by_cases e : k = m + 1
    · subst e; exact h
    · show (allB lo hi V m && _) = false
      rw [ih (by omega)]; rfl
theorem allB_true {lo hi : Int} {V : Nat → Int} {n : Nat} (h : allB lo hi V n = true) {i : Nat} (hi' : i < n) : lo ≤ V i ∧ V i ≤ hi := by
  cases hh : allB lo hi V (i + 1)
  · rw [allB_false hh hi'] at h; cases h
  · have : inB lo (V i) hi = true := by
      have h2 : (allB lo hi V i && inB lo (V i) hi) = true := hh
      exact (Bool.and_eq_true _ _ ▸ h2).2
    unfold inB at this
    simpa using this
theorem eqTo_false {V W : Nat → Int} {k n : Nat} (h : eqTo V W k = false) (hk : k ≤ n) : eqTo V W n = false := by
  induction n with
  | zero => obtain rfl : k = 0 := by omega
            exact h
  | succ m ih =>
    by_cases e : k = m + 1
    · subst e; exact h
    · show (eqTo V W m && _) = false
      rw [ih (by omega)]; rfl
/-- A slice of ints whose cells lie below the world's top. -/
def Row (w : World) (p : Option Addr) (n : Nat) (V : Nat → Int) : Prop :=
  n ≤ 9223372036854775807 ∧ (n = 0 ∨ ∃ b o, p = some ⟨b, o, none⟩ ∧ b < w.heap.size ∧ Hid (∀ i, i < n → w.cell? ⟨b, o + i, none⟩ = some (.int .i64 (V i))))
theorem Row.on {w w2 : World} {p : Option Addr} {n : Nat} {V : Nat → Int} (hb : Below w.heap.size w w2) (h : Row w p n V) : Row w2 p n V := by
  obtain ⟨hl, h | ⟨b, o, rfl, h1, h2⟩⟩ := h
  · exact ⟨hl, .inl h⟩
  · exact ⟨hl, .inr ⟨b, o, rfl, Nat.lt_of_lt_of_le h1 hb.size, Lib.hid fun i hi => (hb.cell (p := ⟨b, o + i, none⟩) h1).trans (h2.out i hi)⟩⟩
theorem Row.alloc {w : World} {o : Obj} {p : Option Addr} {n : Nat} {V : Nat → Int} (h : Row w p n V) : Row (w.alloc o) p n V := h.on ((Below.refl _ _).alloc (Nat.le_refl _) o)
theorem Row.drew {w : World} {p : Option Addr} {n : Nat} {V : Nat → Int} (h : Row w p n V) : Row w.drew p n V := h
theorem Row.drewN {w : World} {p : Option Addr} {n : Nat} {V : Nat → Int} (h : Row w p n V) (m : Nat) : Row (w.drewN m) p n V := h
theorem btw_any (x y z : Int) (w : World) : Calls Tryz.prog 73 #[.int .i64 x, .int .i64 y, .int .i64 z] w fun e w' => e = .returned (.bool (inB x y z)) ∧ w = w' := by
  by_cases h1 : x ≤ y <;> by_cases h2 : y ≤ z
  all_goals
    go_enter Tryz.func73, Tryz.ntmps73
    go_wp2
    go_ret
    exact ⟨ret_bool (by simp [inB, *]), rfl⟩
theorem rbtw_any (y x z : Int) (w : World) : Calls Tryz.prog 81 #[.int .i64 y, .int .i64 x, .int .i64 z] w fun e w' => e = .returned (.bool (inB x y z)) ∧ w = w' := by
  by_cases h1 : x ≤ y <;> by_cases h2 : y ≤ z
  all_goals
    go_enter Tryz.func81, Tryz.ntmps81
    go_wp2
    go_ret
    exact ⟨ret_bool (by simp [inB, *]), rfl⟩
theorem allB_end {lo hi : Int} {V : Nat → Int} {k n : Nat} (h : k < n) (h2 : inB lo (V k) hi = false) : false = allB lo hi V n :=
  (allB_false (k := k + 1) (by show (_ && _) = false; rw [h2, Bool.and_false]) h).symm
theorem allB_next {lo hi : Int} {V : Nat → Int} {k : Nat} (h1 : allB lo hi V k = true) (h2 : inB lo (V k) hi = true) : allB lo hi V (k + 1) = true := by
  show (_ && _) = true; rw [h1, h2]; rfl
theorem allb_any (lo hi : Int) (p : Option Addr) (n c : Nat) (V : Nat → Int) (w : World) (hR : Row w p n V) : Calls Tryz.prog 74 #[.int .i64 lo, .slice p n c, .int .i64 hi] w fun e w' => e = .returned (.bool (allB lo hi V n)) ∧ w = w' := by
  obtain ⟨hl, h | ⟨b, o, rfl, hb, hc⟩⟩ := hR
  · subst h
    go_enter Tryz.func74, Tryz.ntmps74
    go_wp2_with fail
    go_loop [11] (fun i => i = .int .i64 0) (fun _ => 0)
    case atStart => rfl
    case round =>
      obtain rfl := hrel
      go_wp2_with fail
      go_ret
      exact ⟨rfl, rfl⟩
  · go_enter Tryz.func74, Tryz.ntmps74
    go_wp2_with fail
    go_loop [11] (fun i => ∃ k : Nat, k ≤ n ∧ i = .int .i64 k ∧ Hid (allB lo hi V k = true)) (fun i => n - (intOf i).toNat)
    case atStart => exact ⟨0, Nat.zero_le _, rfl, Lib.hid rfl⟩
    case round =>
      obtain ⟨k, hk, rfl, HA⟩ := hrel
      rcases Nat.lt_or_ge k n with h | h
      · have e1 := hc.out k h
        have c1 : (0 : Int) ≤ (k : Int) := by omega
        have c2 : (k : Int) < (n : Int) := by omega
        cases hi' : inB lo (V k) hi
        · have H := Lib.hid hi'
          clear hi'
          go_wp2_with fail
          refine (btw_any _ _ _ _).mono ?_
          rintro e w1 ⟨rfl, rfl⟩
          rw [H.out]
          go_wp2_with fail
          go_ret
          exact ⟨ret_bool (allB_end h H.out), rfl⟩
        · have H := Lib.hid hi'
          clear hi'
          go_wp2_with fail
          refine (btw_any _ _ _ _).mono ?_
          rintro e w1 ⟨rfl, rfl⟩
          rw [H.out]
          go_wp2_with fail
          go_round
          case rel => exact ⟨k + 1, by omega, by go_num, Lib.hid (allB_next HA.out H.out)⟩
          case measure => simp [intOf]; omega
      · obtain rfl : n = k := by omega
        go_wp2_with fail
        go_ret
        exact ⟨ret_bool HA.out.symm, rfl⟩
theorem sum_step {W : Nat → Int} {k : Nat} {s : Int} (h : sumT W k = s) : sumT W (k + 1) = s + W k := by show sumT W k + W k = _; rw [h]
theorem sumP_step {V W : Nat → Int} {k : Nat} {s : Int} (h : sumP V W k = s) : sumP V W (k + 1) = s + V k * W k := by show sumP V W k + V k * W k = _; rw [h]
end Go.Proofs.YtonlmnlpofgccaaGreat.Di
