/-
  The contracts of the reference's Text and Parse: the same decimal numeral, and the same number in bounds.
-/
import Derived.Test.YtilnojcbebchdaaDoorText
import Derived.LoopTactic
namespace Go.Proofs.YtilnojcbebchdaaDoor
open Go.RowKit
set_option maxHeartbeats 400000
theorem num_digit (d : Nat) (h : d < 10) : num (d : Int) = ⟨#[UInt8.ofNat (48 + d)]⟩ := by
  unfold num
  rw [itoa_small (d : Int) (by omega) (by omega)]
  rfl
theorem rtext_digit (n : Int) (h0 : 0 ≤ n) (h1 : n < 10) (w : World) : Calls Tryd.prog 22 #[.int .i64 n] w fun e w' => e = .returned (.string (num n)) ∧ w = w' := by
  have h : n = ((0 : Nat) : Int) ∨ n = ((1 : Nat) : Int) ∨ n = ((2 : Nat) : Int) ∨ n = ((3 : Nat) : Int) ∨ n = ((4 : Nat) : Int) ∨ n = ((5 : Nat) : Int) ∨ n = ((6 : Nat) : Int) ∨ n = ((7 : Nat) : Int) ∨ n = ((8 : Nat) : Int) ∨ n = ((9 : Nat) : Int) := by omega
  rcases h with rfl | rfl | rfl | rfl | rfl | rfl | rfl | rfl | rfl | rfl
  all_goals
    rw [num_digit _ (by omega)]
    go_enter Tryd.func22, Tryd.ntmps22
    go_wp2_with fail
    go_ret
    exact ⟨rfl, rfl⟩
theorem ret_str {a b : ByteArray} (h : a = b) : Ending.returned (.string a) = .returned (.string b) := by rw [h]
theorem num_join {a b c : Int} (h : Lib.itoa c = Lib.itoa a ++ Lib.itoa b) : num a ++ num b = num c := by
  refine WideShapes.bytes_inj ?_
  rw [num_list, h]
  show (num a ++ num b).data.toList = _
  simp [num, ByteArray.data_append]
theorem num_size20 (v : Int) (h0 : -9223372036854775808 ≤ v) (h1 : v ≤ 9223372036854775807) : (num v).size ≤ 20 := by
  have := itoa_size v h0 h1
  show (Lib.itoa v).toArray.size ≤ 20
  simpa using this
theorem rtext_pos (k : Nat) : ∀ (n : Int) (w : World), 0 ≤ n → n ≤ 9223372036854775807 → n.toNat ≤ k →
    Calls Tryd.prog 22 #[.int .i64 n] w fun e w' => e = .returned (.string (num n)) ∧ w = w' := by
  induction k with
  | zero => intro n w h0 _ hk; exact rtext_digit n h0 (by omega) w
  | succ k ih =>
    intro n w h0 h1 hk
    by_cases hs : n < 10
    · exact rtext_digit n h0 hs w
    · have hj := num_join (itoa_big n (by omega))
      have s1 := num_size20 (n / 10) (by omega) (by omega)
      have s2 := num_size20 (n % 10) (by omega) (by omega)
      have HJ := Lib.hid hj
      clear hj
      have IH := Lib.hid ih
      clear ih
      go_enter Tryd.func22, Tryd.ntmps22
      go_wp2_with fail
      refine (IH.out _ _ (by omega) (by omega) (by omega)).mono ?_
      rintro e w' ⟨rfl, rfl⟩
      go_wp2_with fail
      refine (rtext_digit _ (by omega) (by omega) _).mono ?_
      rintro e w' ⟨rfl, rfl⟩
      go_wp2_with fail
      go_ret
      exact ⟨ret_str HJ.out, rfl⟩
theorem num_minus (n : Int) (h : n < 0) : (⟨#[45]⟩ : ByteArray) ++ num (-n) = num n := by
  refine WideShapes.bytes_inj ?_
  rw [num_list, itoa_neg n h]
  show ((⟨#[45]⟩ : ByteArray) ++ num (-n)).data.toList = _
  simp [num, ByteArray.data_append]
theorem rtext_neg (k : Nat) : ∀ (n : Int) (w : World), n < 0 → -9223372036854775808 ≤ n → n.natAbs ≤ k →
    Calls Tryd.prog 22 #[.int .i64 n] w fun e w' => e = .returned (.string (num n)) ∧ w = w' := by
  induction k with
  | zero => intro n w h0 _ hk; omega
  | succ k ih =>
    intro n w h0 h1 hk
    by_cases hs : -10 < n
    · have s1 := num_size20 (-n) (by omega) (by omega)
      have HJ := Lib.hid (num_minus n h0)
      clear ih
      go_enter Tryd.func22, Tryd.ntmps22
      go_wp2_with fail
      refine (rtext_digit _ (by omega) (by omega) _).mono ?_
      rintro e w' ⟨rfl, rfl⟩
      go_wp2_with fail
      go_ret
      exact ⟨ret_str HJ.out, rfl⟩
    · have hs : n ≤ -10 := by omega
      have t1 := tdiv10 n hs
      have t2 := tmod10 n hs
      have HJ := Lib.hid (num_join (itoa_deep n hs))
      have s1 := num_size20 (n.tdiv 10) (by omega) (by omega)
      have s2 := num_size20 (-(n.tmod 10)) (by omega) (by omega)
      have IH := Lib.hid ih
      clear ih
      go_enter Tryd.func22, Tryd.ntmps22
      go_wp2_with fail
      refine (IH.out _ _ (by omega) (by omega) (by omega)).mono ?_
      rintro e w' ⟨rfl, rfl⟩
      go_wp2_with fail
      refine (rtext_digit _ (by omega) (by omega) _).mono ?_
      rintro e w' ⟨rfl, rfl⟩
      go_wp2_with fail
      go_ret
      exact ⟨ret_str HJ.out, rfl⟩
theorem rtext_any (n : Int) (h0 : -9223372036854775808 ≤ n) (h1 : n ≤ 9223372036854775807) (w : World) :
    Calls Tryd.prog 22 #[.int .i64 n] w fun e w' => e = .returned (.string (num n)) ∧ w = w' := by
  rcases Int.lt_or_le n 0 with h | h
  · exact rtext_neg n.natAbs n w h h0 (Nat.le_refl _)
  · exact rtext_pos n.toNat n w h h1 (Nat.le_refl _)
end Go.Proofs.YtilnojcbebchdaaDoor
