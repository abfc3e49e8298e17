/-
  The contracts of New, of the library and of the reference.
-/
import Derived.Test.YtjjigcgbdnadcaaSplit
namespace Go.Proofs.Ytjjigcgbdnadcaa
open Go.RowKit
set_option maxHeartbeats 1000000
def KeyAt (seed : Int) (s : ByteArray) (k : Nat) : Nat := keyOf (mixN (addG (bitsOf seed))) (s.data.toList.take k)
theorem keyAt_zero (seed : Int) (s : ByteArray) : KeyAt seed s 0 = mixN (addG (bitsOf seed)) := by unfold KeyAt; rw [List.take_zero, keyOf_nil]
theorem keyAt_lt (seed : Int) (s : ByteArray) (k : Nat) : KeyAt seed s k < 18446744073709551616 := keyOf_lt _ (mixN_lt _)
theorem keyAt_succ (seed : Int) (s : ByteArray) (k : Nat) (h : k < s.size) : KeyAt seed s (k + 1) = mixN (addG (KeyAt seed s k ^^^ s[k].toNat)) := by
  unfold KeyAt
  rw [List.take_succ_eq_append_getElem (by simpa using h), keyOf_snoc]; rfl
theorem keyAt_all (seed : Int) (s : ByteArray) : KeyAt seed s s.size = newK seed s := by
  unfold KeyAt newK
  rw [List.take_of_length_le (by simp)]
theorem xor_byte (k : Nat) (hk : k < 18446744073709551616) (c : UInt8) : bits .xor .u64 (k : Int) (IntKind.u64.wrap (c.toNat : Int)) = ((k ^^^ c.toNat : Nat) : Int) := by
  have hc : c.toNat < 256 := c.toNat_lt
  rw [show IntKind.u64.wrap (c.toNat : Int) = (c.toNat : Int) by rw [IntKind.wrap_u64]; omega]
  exact bits_xor_u64_nat k c.toNat hk (Nat.lt_trans c.toNat_lt (by decide))
theorem arg_g (x : Nat) : IntKind.u64.wrap ((x : Int) + 11400714819323198485) = ((addG x : Nat) : Int) := by
  unfold addG
  rw [IntKind.wrap_u64, Int.natCast_emod, Int.natCast_add]; rfl
/-- What a round wants: the argument of Mix, and its result. -/
structure Turn (P : Program) (f : FuncId) (c : Nat) (q q2 : Nat) : Prop where
  h : ∃ x y : Nat, bits .xor .u64 (q : Int) (IntKind.u64.wrap (c : Int)) = (x : Int) ∧ IntKind.u64.wrap ((x : Int) + 11400714819323198485) = (y : Int) ∧ ∀ w, Calls P f #[.int .u64 (y : Int)] w fun e w' => e = .returned (.int .u64 (q2 : Int)) ∧ w = w'
theorem turn_s (seed : Int) (s : ByteArray) (k : Nat) (h : k < s.size) : Turn Try.prog 10 s[k].toNat (KeyAt seed s k) (KeyAt seed s (k + 1)) :=
  ⟨_, _, xor_byte _ (keyAt_lt _ _ _) _, arg_g _, fun w => by rw [keyAt_succ seed s k h]; exact mix_any _ (addG_lt _) w⟩
theorem turn_r (seed : Int) (s : ByteArray) (k : Nat) (h : k < s.size) : Turn Try.prog 11 s[k].toNat (KeyAt seed s k) (KeyAt seed s (k + 1)) :=
  ⟨_, _, xor_byte _ (keyAt_lt _ _ _) _, arg_g _, fun w => by rw [keyAt_succ seed s k h]; exact rmix_any _ (addG_lt _) w⟩
theorem new_walk (seed : Int) (s : ByteArray) (hs : s.size ≤ 1000) (K : Nat → Nat) (z : Nat) (hz : IntKind.u64.wrap (IntKind.u64.wrap seed + 11400714819323198485) = (z : Int)) (M : Hid (∀ w, Calls Try.prog 10 #[.int .u64 (z : Int)] w fun e w' => e = .returned (.int .u64 (K 0 : Nat)) ∧ w = w'))
    (T : Hid (∀ k (h : k < s.size), Turn Try.prog 10 s[k].toNat (K k) (K (k + 1)))) (w : World) :
    Calls Try.prog 13 #[.int .i64 seed, .string s] w (Gives (.agg #[.int .u64 (K s.size : Nat), .int .i64 0, .bool false]) w) := by
  go_enter Try.func13, Try.ntmps13
  go_wp2_with fail
  refine (M.out _).mono ?_
  rintro e w2 ⟨rfl, rfl⟩
  clear M hz
  go_wp2_with fail
  go_loop [5, 13] (fun q i => ∃ k : Nat, k ≤ s.size ∧ i = .int .i64 k ∧ q = .int .u64 (K k)) (fun _ i => s.size - (intOf i).toNat)
  case atStart => exact ⟨0, Nat.zero_le _, rfl, rfl⟩
  case round =>
    obtain ⟨k, hk, rfl, rfl⟩ := hrel
    by_cases hlt : k < s.size
    · obtain ⟨x, y, h1, h2, hM⟩ := (T.out k hlt).h
      have hM := Lib.hid hM
      clear T
      go_wp2_with fail
      refine (hM.out _).mono ?_
      rintro e w2 ⟨rfl, rfl⟩
      clear hM h1 h2
      go_wp2_with fail
      go_round
      case rel => exact ⟨k + 1, by omega, by go_num, rfl⟩
      case measure => simp [intOf]; omega
    · obtain rfl : k = s.size := by omega
      clear T
      go_wp2_with fail
      exact bodyPost_ret (v := .agg #[.int .u64 (K s.size : Nat), .int .i64 0, .bool false]) (by simp [results, Try.results13, go_sem, *]) rfl ⟨rfl, by repeat (first | exact Below.refl _ _ | assumption | apply bl_alloc | apply bl_drewN | apply bl_drew | (refine bl_set ?_ (by first | (simp; done) | (simp; omega)) _) | (refine bl_call ?_ (by assumption)))⟩
theorem rnew_walk (seed : Int) (s : ByteArray) (hs : s.size ≤ 1000) (K : Nat → Nat) (z : Nat) (hz : IntKind.u64.wrap (IntKind.u64.wrap seed + 11400714819323198485) = (z : Int)) (M : Hid (∀ w, Calls Try.prog 11 #[.int .u64 (z : Int)] w fun e w' => e = .returned (.int .u64 (K 0 : Nat)) ∧ w = w'))
    (T : Hid (∀ k (h : k < s.size), Turn Try.prog 11 s[k].toNat (K k) (K (k + 1)))) (w : World) :
    Calls Try.prog 14 #[.int .i64 seed, .string s] w (Gives (.agg #[.int .u64 (K s.size : Nat), .int .i64 0, .bool false]) w) := by
  go_enter Try.func14, Try.ntmps14
  go_wp2_with fail
  refine (M.out _).mono ?_
  rintro e w2 ⟨rfl, rfl⟩
  clear M hz
  go_wp2_with fail
  go_loop [5, 6] (fun q i => ∃ k : Nat, k ≤ s.size ∧ i = .int .i64 k ∧ q = .int .u64 (K k)) (fun _ i => s.size - (intOf i).toNat)
  case atStart => exact ⟨0, Nat.zero_le _, rfl, rfl⟩
  case round =>
    obtain ⟨k, hk, rfl, rfl⟩ := hrel
    by_cases hlt : k < s.size
    · obtain ⟨x, y, h1, h2, hM⟩ := (T.out k hlt).h
      have hM := Lib.hid hM
      clear T
      go_wp2_with fail
      refine (hM.out _).mono ?_
      rintro e w2 ⟨rfl, rfl⟩
      clear hM h1 h2
      go_wp2_with fail
      go_round
      case rel => exact ⟨k + 1, by omega, by go_num, rfl⟩
      case measure => simp [intOf]; omega
    · obtain rfl : k = s.size := by omega
      clear T
      go_wp2_with fail
      exact bodyPost_ret (v := .agg #[.int .u64 (K s.size : Nat), .int .i64 0, .bool false]) (by simp [results, Try.results14, go_sem, *]) rfl ⟨rfl, by repeat (first | exact Below.refl _ _ | assumption | apply bl_alloc | apply bl_drewN | apply bl_drew | (refine bl_set ?_ (by first | (simp; done) | (simp; omega)) _) | (refine bl_call ?_ (by assumption)))⟩
end Go.Proofs.Ytjjigcgbdnadcaa
