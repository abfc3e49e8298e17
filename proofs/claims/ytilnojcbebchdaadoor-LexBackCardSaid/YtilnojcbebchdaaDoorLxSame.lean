/-
  The contract of the reference's Same.
-/
import Derived.Test.YtilnojcbebchdaaDoorLxBase
namespace Go.Proofs.YtilnojcbebchdaaDoor.Lx
open Go.RowKit
set_option maxHeartbeats 2000000
set_option linter.unusedVariables false
set_option maxRecDepth 100000 in
theorem same_yes {p q : Option Addr} {n c d : Nat} {l : List Tk} (w : World) (hP : Toks w p n l) (hQ : Toks w q n l) : Calls Tryd.prog 13 #[.slice p n c, .slice q n d] w (Gives (.bool true) w) := by
  have hn : (n : Int) ≤ 9223372036854775807 := by have := hP.2.1; omega
  have HP := Lib.hid hP
  have HQ := Lib.hid hQ
  have HL := Lib.hid hP.1
  clear hP hQ
  go_enter Tryd.func13, Tryd.ntmps13
  go_wp2_with fail
  go_loopw [5] (fun i wr => ∃ k : Nat, k ≤ n ∧ i = .int .i64 (k : Nat) ∧ Below w.heap.size w wr) (fun i wr => n - (intOf i).toNat)
  case atStart => exact ⟨0, Nat.zero_le _, rfl, Below.refl _ _⟩
  case round =>
    obtain ⟨k, hk, rfl, hbr⟩ := hrel
    have d1 : (0 : Int) ≤ (k : Int) := by omega
    rcases Nat.lt_or_ge k n with h | h
    · have d2 : (k : Int) < (n : Int) := by omega
      obtain ⟨-, -, h0 | ⟨b, o, rfl, hb, hc⟩⟩ := HP.out.on hbr
      · omega
      obtain ⟨-, -, h0 | ⟨b2, o2, rfl, hb2, hc2⟩⟩ := HQ.out.on hbr
      · omega
      have hkl : k < l.length := by rw [HL.out]; exact h
      obtain ⟨e1, e2, e3, e4⟩ := hc.out k hkl
      obtain ⟨f1, f2, f3, f4⟩ := hc2.out k hkl
      obtain ⟨X, hX⟩ : ∃ X, l[k] = X := ⟨_, rfl⟩
      rw [hX] at e1 e2 e3 e4 f1 f2 f3 f4
      obtain ⟨K, T, N, L⟩ := X
      simp only at e1 e2 e3 e4 f1 f2 f3 f4
      have t1 : (T.toList == T.toList) = true := by simp
      clear hc hc2 hX
      go_wp2_with fail
      go_quiet (fail)
      all_goals
        go_wp2_with fail
        go_roundw
        case rel => exact ⟨k + 1, by omega, by go_num, by (repeat (first | (with_reducible exact Below.refl _ _) | (with_reducible assumption) | (with_reducible apply bl_alloc) | (with_reducible apply bl_drewN) | (with_reducible apply bl_drew) | (with_reducible refine bl_set ?_ (by first | (simp; done) | (simp; omega)) _) | (with_reducible refine bl_call ?_ (by assumption))))⟩
        case measure => simp [intOf]; omega
    · obtain rfl : k = n := by omega
      go_wp2_with fail
      go_ret
      exact ⟨rfl, hbr⟩
end Go.Proofs.YtilnojcbebchdaaDoor.Lx
