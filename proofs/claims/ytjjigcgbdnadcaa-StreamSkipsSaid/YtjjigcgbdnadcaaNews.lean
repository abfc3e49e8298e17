/-
  The statement StreamNews, walked.
-/
import Derived.Test.YtjjigcgbdnadcaaAwake
namespace Go.Proofs.Ytjjigcgbdnadcaa
open Go.RowKit
set_option maxHeartbeats 1000000
theorem tri.keep {w : World} {b : Nat} {x y z : Value} (h : tri w b x y z) : w.cell? ⟨b, 0, none⟩ = some x ∧ w.cell? ⟨b, 1, none⟩ = some y ∧ w.cell? ⟨b, 2, none⟩ = some z := ⟨h.1, h.2.1, h.2.2.1⟩
theorem streamNews_walk (seed : Int) (_ : -9223372036854775808 ≤ seed) (_ : seed ≤ 9223372036854775807) (s : ByteArray) (w : World) : Calls Try.prog 4 #[.int .i64 seed, .string s] w (Gives (.bool true) w) := by
  by_cases hs : 1000 < s.size
  · have hs : decide ((1000 : Int) < (s.size : Int)) = true := decide_eq_true (by omega)
    go_enter Try.func4, Try.ntmps4
    go_wp2_with fail
    refine (awake_any _).mono ?_
    rintro e w1 ⟨rfl, hb1⟩
    go_wp2_with fail
    go_ret
    exact ⟨rfl, by repeat (first | exact Below.refl _ _ | assumption | apply bl_alloc | apply bl_drewN | apply bl_drew | (refine bl_set ?_ (by first | (simp; done) | (simp; omega)) _) | (refine bl_call ?_ (by assumption)))⟩
  · have M := Lib.hid (new_any seed s (by omega))
    have R := Lib.hid (rnew_any seed s (by omega))
    have hs : decide ((1000 : Int) < (s.size : Int)) = false := decide_eq_false (by omega)
    obtain ⟨a, ea⟩ : ∃ a, newK seed s = a := ⟨_, rfl⟩
    rw [ea] at M R
    clear ea
    have E := Lib.hid (show errS 0 = 0 by decide)
    go_enter Try.func4, Try.ntmps4
    go_wp2_with fail
    refine (M.out _).mono ?_
    rintro e w1 ⟨rfl, hb1⟩
    go_wp2_with fail
    have S1 : tri (w1.alloc (.cells #[.int .u64 (a : Nat), .int .i64 0, .bool false] 27)) w1.heap.size (.int .u64 (a : Nat)) (.int .i64 0) (.bool false) := tri.new
    go_region_held3 (fun w' => w'.cell? ⟨w1.heap.size, 0, none⟩ = some (.int .u64 (a : Nat)) ∧ w'.cell? ⟨w1.heap.size, 1, none⟩ = some (.int .i64 0) ∧ w'.cell? ⟨w1.heap.size, 2, none⟩ = some (.bool false)) (first | exact tri.keep S4 | exact tri.keep S3 | exact tri.keep S2 | exact tri.keep S1 | (go_keep; done))
      (first
        | (go_at_call 14; refine (R.out _).mono ?_; rintro e w2 ⟨rfl, hb2⟩; have S2 := tri.on hb2 S1.drew)
        | (go_at_call 15; refine (check_any _ _ _ _).mono ?_; rintro e w3 ⟨rfl, hb3⟩; rw [E.out]; have S3 := tri.on hb3 S2)
        | (go_at_call 12; refine (awake_any _).mono ?_; rintro e w4 ⟨rfl, hb4⟩; have S4 := tri.on hb4 S3))
    all_goals
      go_wp2_with fail
      go_ret
      exact ⟨rfl, by repeat (first | exact Below.refl _ _ | assumption | apply bl_alloc | apply bl_drewN | apply bl_drew | (refine bl_set ?_ (by first | (simp; done) | (simp; omega)) _) | (refine bl_call ?_ (by assumption)))⟩
end Go.Proofs.Ytjjigcgbdnadcaa
