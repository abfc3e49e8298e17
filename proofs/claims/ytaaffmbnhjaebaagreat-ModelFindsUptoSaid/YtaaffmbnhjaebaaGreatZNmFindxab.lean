/-
  Parts of this proof: The contracts of Find, of the library and of the reference, and of the library's Index.
-/
import Derived.Test.YtaaffmbnhjaebaaGreatZNmMath
namespace Go.Proofs.YtaaffmbnhjaebaaGreat.Na
open Go.RowKit
set_option maxHeartbeats 2000000
theorem rfind_any (p : Option Addr) (n c : Nat) (l : List ByteArray) (s : ByteArray) (w : World) (hb : Strs w p n l) : Calls Tryz.prog 43 #[.slice p n c, .string s] w fun e w' => e = .returned (.int .i64 (fst l s)) ∧ w' = w := by
 have HB := Lib.hid hb
 have HL := Lib.hid hb.1
 have hn : (n : Int) ≤ 9223372036854775807 := by have := hb.2.1; omega
 clear hb
 go_enter Tryz.func43, Tryz.ntmps43
 go_wp2_with fail
 go_loop [5] (fun i => ∃ k : Nat, k ≤ n ∧ i = .int .i64 (k : Nat) ∧ Hid (Not l s k)) (fun i => n - (intOf i).toNat)
 case atStart => exact ⟨0, Nat.zero_le _, rfl, Lib.hid not_zero⟩
 case round =>
  obtain ⟨k, hk, rfl, HN⟩ := hrel
  have c1 : (0 : Int) ≤ (k : Int) := by omega
  rcases Nat.lt_or_ge k n with h | h
  · have hkl : k < l.length := by rw [HL.out]; exact h
    obtain ⟨-, -, h0 | ⟨b, o, rfl, hb, hcell⟩⟩ := HB.out
    · omega
    · have e1 := hcell.out k hkl
      have c2 : (k : Int) < (n : Int) := by omega
      by_cases he : bs l[k] = bs s
      · have q1 := eq_yes he
        have HR := Lib.hid (not_hit hkl HN.out he)
        obtain ⟨x, ex⟩ : ∃ x, l[k] = x := ⟨_, rfl⟩
        rw [ex] at e1 q1
        clear he hcell ex hkl
        go_wp2_with fail
        go_ret
        exact ⟨ret_int HR.out, rfl⟩
      · have q1 := eq_no he
        have HN2 := Lib.hid (not_step hkl HN.out he)
        obtain ⟨x, ex⟩ : ∃ x, l[k] = x := ⟨_, rfl⟩
        rw [ex] at e1 q1
        clear he hcell ex hkl
        go_wp2_with fail
        go_round
        case rel => exact ⟨k + 1, by omega, by go_num, HN2⟩
        case measure => simp [intOf]; omega
  · obtain rfl : n = k := by omega
    have HR := Lib.hid (not_miss HL.out HN.out)
    go_wp2_with fail
    go_ret
    exact ⟨ret_int HR.out, rfl⟩
end Go.Proofs.YtaaffmbnhjaebaaGreat.Na
