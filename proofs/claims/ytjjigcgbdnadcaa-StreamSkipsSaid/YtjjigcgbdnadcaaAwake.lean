/-
  The chapter's examples: awake.
-/
import Derived.Test.YtjjigcgbdnadcaaStream
import Derived.KernelRfl
namespace Go.Proofs.Ytjjigcgbdnadcaa
open Go.RowKit
set_option maxHeartbeats 400000
theorem awk_next1 (w : World) : Calls Try.prog 16 #[.agg #[.int .u64 0, .int .i64 0, .bool false]] w (Gives (.tuple #[.int .u64 16294208416658607535, .agg #[.int .u64 0, .int .i64 1, .bool false]]) w) := by
  have h := next_any 0 0 false w
  rw [show nxtU 0 0 false = 16294208416658607535 by decide +kernel, show nxtP 0 = 1 by decide +kernel] at h; exact h
theorem awk_next2 (w : World) : Calls Try.prog 16 #[.agg #[.int .u64 0, .int .i64 1, .bool false]] w (Gives (.tuple #[.int .u64 7960286522194355700, .agg #[.int .u64 0, .int .i64 2, .bool false]]) w) := by
  have h := next_any 0 1 false w
  rw [show nxtU 0 1 false = 7960286522194355700 by decide +kernel, show nxtP 1 = 2 by decide +kernel] at h; exact h
theorem awk_next3 (w : World) : Calls Try.prog 16 #[.agg #[.int .u64 0, .int .i64 2, .bool false]] w (Gives (.tuple #[.int .u64 487617019471545679, .agg #[.int .u64 0, .int .i64 3, .bool false]]) w) := by
  have h := next_any 0 2 false w
  rw [show nxtU 0 2 false = 487617019471545679 by decide +kernel, show nxtP 2 = 3 by decide +kernel] at h; exact h
theorem awk_skip (w : World) : Calls Try.prog 21 #[.agg #[.int .u64 0, .int .i64 0, .bool false], .int .i64 2] w (Gives (.agg #[.int .u64 0, .int .i64 2, .bool false]) w) := by
  have h := skip_any 0 0 false 2 w
  rw [show skipP 0 2 = 2 by decide +kernel] at h; exact h
theorem awk_mirror (w : World) : Calls Try.prog 25 #[.agg #[.int .u64 0, .int .i64 0, .bool false]] w (Gives (.agg #[.int .u64 0, .int .i64 0, .bool true]) w) := by
  have h := mirror_any 0 0 false w
  rw [show mirB 0 false = true by decide +kernel] at h; exact h
theorem awk_below1 (w : World) : Calls Try.prog 18 #[.agg #[.int .u64 0, .int .i64 0, .bool false], .int .i64 256] w (Gives (.tuple #[.int .i64 226, .agg #[.int .u64 0, .int .i64 1, .bool false], .bool true]) w) := by
  have h := below_any 0 0 false 256 w
  rw [show belV 0 0 false 256 = 226 by decide +kernel, show belP 0 256 = 1 by decide +kernel, show belB 0 256 = true by decide +kernel] at h; exact h
theorem awk_below2 (w : World) : Calls Try.prog 18 #[.agg #[.int .u64 0, .int .i64 0, .bool true], .int .i64 256] w (Gives (.tuple #[.int .i64 29, .agg #[.int .u64 0, .int .i64 1, .bool true], .bool true]) w) := by
  have h := below_any 0 0 true 256 w
  rw [show belV 0 0 true 256 = 29 by decide +kernel, show belP 0 256 = 1 by decide +kernel, show belB 0 256 = true by decide +kernel] at h; exact h
theorem awk_below3 (w : World) : Calls Try.prog 18 #[.agg #[.int .u64 0, .int .i64 1000000000000, .bool false], .int .i64 10] w (Gives (.tuple #[.int .i64 0, .agg #[.int .u64 0, .int .i64 1000000000000, .bool false], .bool false]) w) := by
  have h := below_any 0 1000000000000 false 10 w
  rw [show belV 0 1000000000000 false 10 = 0 by decide +kernel, show belP 1000000000000 10 = 1000000000000 by decide +kernel, show belB 1000000000000 10 = false by decide +kernel] at h; exact h
theorem awk_mix (w : World) : Calls Try.prog 10 #[.int .u64 0] w fun e w' => e = .returned (.int .u64 0) ∧ w = w' := by
  have h := mix_any 0 (by decide) w
  rw [show mixN 0 = 0 by decide +kernel] at h; exact h
theorem awk_new (w : World) : Calls Try.prog 13 #[.int .i64 0, .string ⟨#[]⟩] w (Gives (.agg #[.int .u64 16294208416658607535, .int .i64 0, .bool false]) w) := by
  have h := new_any 0 ⟨#[]⟩ (by decide) w
  rw [show newK 0 ⟨#[]⟩ = 16294208416658607535 by decide +kernel] at h; exact h
theorem awk_check (w : World) : Calls Try.prog 15 #[.agg #[.int .u64 0, .int .i64 (-1), .bool false]] w (Gives (.int .i64 2) w) := by
  have h := check_any 0 (-1) false w
  rw [show errS (-1) = 2 by decide +kernel] at h; exact h
theorem field_key (k p : Int) (b : Bool) (w : World) : (Instr.field 27 (.agg #[.int .u64 k, .int .i64 p, .bool b]) 0).run Try.prog w = .ok (.int .u64 k) w := by kernel_rfl
set_option maxHeartbeats 4000000 in
theorem awake_any (w : World) : Calls Try.prog 12 #[] w (Gives (.bool true) w) := by
  go_enter Try.func12, Try.ntmps12
  go_wp2_with fail
  refine (awk_next1 _).mono ?_
  rintro e w1 ⟨rfl, hb1⟩
  have z1 : w.heap.size ≤ w1.heap.size := hb1.size
  go_wp2_with fail
  refine (awk_next2 _).mono ?_
  rintro e w2 ⟨rfl, hb2⟩
  have S2 := tri.on hb2 tri.new
  obtain ⟨s0, s1, s2, s3, s4, s5, s6⟩ := S2
  have S2 : tri _ _ _ _ _ := ⟨s0, s1, s2, s3, s4, s5, s6⟩
  go_wp2_with fail
  refine (awk_skip _).mono ?_
  rintro e w3 ⟨rfl, hb3⟩
  have S3 := tri.on hb3 (tri.set3 S2)
  go_wp2_with fail
  refine (awk_next3 _).mono ?_
  rintro e w4 ⟨rfl, hb4⟩
  have S4 := tri.on hb4 S3
  go_wp2_with fail
  refine (awk_below1 _).mono ?_
  rintro e w5 ⟨rfl, hb5⟩
  have S5 := tri.on hb5 (tri.alloc S4)
  go_wp2_with fail
  refine (awk_mirror _).mono ?_
  rintro e w6 ⟨rfl, hb6⟩
  have S6 := tri.on hb6 (tri.alloc S5)
  have F6 := tri.on hb6 tri.new
  go_wp2_with fail
  refine (awk_below2 _).mono ?_
  rintro e w7 ⟨rfl, hb7⟩
  have S7 := tri.on hb7 S6
  have F7 := tri.on hb7 F6
  go_wp2_with fail
  refine (awk_below3 _).mono ?_
  rintro e w8 ⟨rfl, hb8⟩
  have S8 := tri.on hb8 (tri.alloc S7)
  have F8 := tri.on hb8 (tri.alloc F7)
  clear s0 s1 s2 s3 s4 s5 s6
  obtain ⟨s0, s1, s2, s3, s4, s5, s6⟩ := S8
  have S8 : tri _ _ _ _ _ := ⟨s0, s1, s2, s3, s4, s5, s6⟩
  obtain ⟨f0, f1, f2, f3, f4, f5, f6⟩ := F8
  have F8 : tri _ _ _ _ _ := ⟨f0, f1, f2, f3, f4, f5, f6⟩
  go_wp2_with fail
  refine (awk_mix _).mono ?_
  rintro e w9 ⟨rfl, rfl⟩
  go_wp2_with fail
  refine (awk_new _).mono ?_
  rintro e w10 ⟨rfl, hb10⟩
  have S9 := tri.on hb10 (tri.alloc S8)
  have F9 := tri.on hb10 (tri.alloc F8)
  have hfk := field_key
  clear s0 s1 s2 s3 s4 s5 s6 f0 f1 f2 f3 f4 f5 f6
  obtain ⟨s0, s1, s2, s3, s4, s5, s6⟩ := S9
  have S9 : tri _ _ _ _ _ := ⟨s0, s1, s2, s3, s4, s5, s6⟩
  obtain ⟨f0, f1, f2, f3, f4, f5, f6⟩ := F9
  have F9 : tri _ _ _ _ _ := ⟨f0, f1, f2, f3, f4, f5, f6⟩
  go_wp2_with fail
  refine (awk_check _).mono ?_
  rintro e w11 ⟨rfl, hb11⟩
  go_wp2_with fail
  go_ret
  exact ⟨rfl, by repeat (first | exact Below.refl _ _ | assumption | apply bl_alloc | apply bl_drewN | apply bl_drew | (refine bl_set ?_ (by first | (simp; done) | (simp; omega)) _) | (refine bl_call ?_ (by assumption)))⟩
end Go.Proofs.Ytjjigcgbdnadcaa
