/-
  The statement StreamSkips, walked.
-/
import Derived.Test.YtjjigcgbdnadcaaSplits
namespace Go.Proofs.Ytjjigcgbdnadcaa
open Go.RowKit
set_option maxHeartbeats 1000000
theorem skips_walk (k : Nat) (p : Int) (b : Bool) (n : Int) (K : Nat) (pos : Nat → Int) (num : Nat → Nat) (q2 K2 : Int) (e2 : 2 * (K : Int) = K2) (e3 : IntKind.i64.wrap K2 = K2) (hm : IntKind.i64.wrap n = n) (hK : n.tmod 61 = (K : Int)) (k1 : K ≤ 60) (h0 : pos 0 = p)
    (S1 : Hid (∀ w, Calls Try.prog 21 #[.agg #[.int .u64 (k : Nat), .int .i64 (p), .bool (b)], .int .i64 (K : Int)] w (Gives (.agg #[.int .u64 (k : Nat), .int .i64 (pos K), .bool (b)]) w)))
    (N1 : Hid (∀ m w, Calls Try.prog 16 #[.agg #[.int .u64 (k : Nat), .int .i64 (pos m), .bool (b)]] w (Gives (.tuple #[.int .u64 (num m : Nat), .agg #[.int .u64 (k : Nat), .int .i64 (pos (m + 1)), .bool (b)]]) w)))
    (S2 : Hid (∀ w, Calls Try.prog 21 #[.agg #[.int .u64 (k : Nat), .int .i64 (pos K), .bool (b)], .int .i64 (K : Int)] w (Gives (.agg #[.int .u64 (k : Nat), .int .i64 (q2), .bool (b)]) w)))
    (S3 : Hid (∀ w, Calls Try.prog 21 #[.agg #[.int .u64 (k : Nat), .int .i64 (p), .bool (b)], .int .i64 K2] w (Gives (.agg #[.int .u64 (k : Nat), .int .i64 (q2), .bool (b)]) w))) (w : World) :
    Calls Try.prog 6 #[.agg #[.int .u64 (k : Nat), .int .i64 (p), .bool (b)], .int .u8 n] w (Gives (.bool true) w) := by
  go_enter Try.func6, Try.ntmps6
  go_wp2_with fail
  refine (S1.out _).mono ?_
  rintro e w1 ⟨rfl, hb1⟩
  have A1 := tri.on hb1 tri.new
  obtain ⟨a0, a1, a2, a3, a4, a5, a6⟩ := A1
  have A1 : tri _ _ _ _ _ := ⟨a0, a1, a2, a3, a4, a5, a6⟩
  go_wp2_with fail
  go_loopw [8] (fun i wr => ∃ m : Nat, m ≤ K ∧ i = .int .i64 m ∧ tri wr w.heap.size (.int .u64 (k : Nat)) (.int .i64 p) (.bool b) ∧ tri wr w1.heap.size (.int .u64 (k : Nat)) (.int .i64 (pos K)) (.bool b) ∧ tri wr (w1.heap.size + 1) (.int .u64 (k : Nat)) (.int .i64 (pos m)) (.bool b) ∧ Below w.heap.size w wr) (fun i _ => K - (intOf i).toNat)
  case atStart => exact ⟨0, Nat.zero_le _, rfl, by (repeat (first | (with_reducible assumption) | (with_reducible exact tri.new) | (with_reducible exact tri.new2) | (with_reducible exact tri.newSet) | (with_reducible refine tri.drew ?_) | (with_reducible refine tri.drewN ?_ _) | (with_reducible refine tri.set3o ?_) | (with_reducible refine blk.far ?_ (by omega)) | (exact blk.back (by with_reducible assumption)) | (with_reducible refine tri.far ?_ (by omega)) | (with_reducible refine tri.alloc ?_) | (with_reducible refine tri.call ?_ (by assumption)))), by (repeat (first | (with_reducible assumption) | (with_reducible exact tri.new) | (with_reducible exact tri.new2) | (with_reducible exact tri.newSet) | (with_reducible refine tri.drew ?_) | (with_reducible refine tri.drewN ?_ _) | (with_reducible refine tri.set3o ?_) | (with_reducible refine blk.far ?_ (by omega)) | (exact blk.back (by with_reducible assumption)) | (with_reducible refine tri.far ?_ (by omega)) | (with_reducible refine tri.alloc ?_) | (with_reducible refine tri.call ?_ (by assumption)))), by rw [h0]; (repeat (first | (with_reducible assumption) | (with_reducible exact tri.new) | (with_reducible exact tri.new2) | (with_reducible exact tri.newSet) | (with_reducible refine tri.drew ?_) | (with_reducible refine tri.drewN ?_ _) | (with_reducible refine tri.set3o ?_) | (with_reducible refine blk.far ?_ (by omega)) | (exact blk.back (by with_reducible assumption)) | (with_reducible refine tri.far ?_ (by omega)) | (with_reducible refine tri.alloc ?_) | (with_reducible refine tri.call ?_ (by assumption)))), by (repeat (first | (with_reducible exact Below.refl _ _) | (with_reducible assumption) | (with_reducible apply bl_alloc) | (with_reducible apply bl_drewN) | (with_reducible apply bl_drew) | (with_reducible refine bl_set ?_ (by first | (simp; done) | (simp; omega)) _) | (with_reducible refine bl_call ?_ (by assumption))))⟩
  case round =>
    obtain ⟨m, hmK, rfl, A2, F2, T2, hB⟩ := hrel
    clear a0 a1 a2 a3 a4 a5 A1 hb1 h0
    by_cases hlt : m < K
    · clear S1 S2 S3
      obtain ⟨t0, t1, t2, t3, t4, t5, t6⟩ := T2
      have T2 : tri _ _ _ _ _ := ⟨t0, t1, t2, t3, t4, t5, t6⟩
      go_wp2_with fail
      refine (N1.out m _).mono ?_
      rintro e w3 ⟨rfl, hb3⟩
      have A3 := tri.on hb3 A2
      have F3 := tri.on hb3 F2
      have T3 := tri.on hb3 T2
      clear t0 t1 t2 t3 t4 t5 t6
      obtain ⟨t0, t1, t2, t3, t4, t5, t6⟩ := T3
      have T3 : tri _ _ _ _ _ := ⟨t0, t1, t2, t3, t4, t5, t6⟩
      have z3 := hb3.size
      go_wp2_with fail
      go_roundw
      case rel => exact ⟨m + 1, by omega, by go_num, tri.far A3 (by omega), tri.far F3 (by omega), tri.set3 T3, by (repeat (first | (with_reducible exact Below.refl _ _) | (with_reducible assumption) | (with_reducible apply bl_alloc) | (with_reducible apply bl_drewN) | (with_reducible apply bl_drew) | (with_reducible refine bl_set ?_ (by first | (simp; done) | (simp; omega)) _) | (with_reducible refine bl_call ?_ (by assumption))))⟩
      case measure => simp [intOf]; omega
    · obtain rfl : m = K := by omega
      clear hlt
      obtain ⟨f0, f1, f2, f3, f4, f5, f6⟩ := F2
      have F2 : tri _ _ _ _ _ := ⟨f0, f1, f2, f3, f4, f5, f6⟩
      obtain ⟨t0, t1, t2, t3, t4, t5, t6⟩ := T2
      have T2 : tri _ _ _ _ _ := ⟨t0, t1, t2, t3, t4, t5, t6⟩
      go_wp2_with fail
      refine (N1.out m _).mono ?_
      rintro e w3 ⟨rfl, hb3⟩
      have A3 := tri.on hb3 A2
      have F3 := tri.on hb3 F2
      have T3 := tri.on hb3 T2
      clear f0 f1 f2 f3 f4 f5 f6 t0 t1 t2 t3 t4 t5 t6
      obtain ⟨t0, t1, t2, t3, t4, t5, t6⟩ := T3
      have T3 : tri _ _ _ _ _ := ⟨t0, t1, t2, t3, t4, t5, t6⟩
      go_wp2_with fail
      refine (N1.out m _).mono ?_
      rintro e w4 ⟨rfl, hb4⟩
      have A4 := tri.on hb4 (tri.alloc A3)
      have F4 := tri.on hb4 (tri.alloc F3)
      have T4 := tri.on hb4 (tri.alloc T3)
      have X4 := tri.on hb4 tri.new
      clear t0 t1 t2 t3 t4 t5 t6 N1
      go_wp2_with fail
      have A5 := tri.alloc (o := .cells #[.int .u64 (k : Nat), .int .i64 (pos (m + 1)), .bool b] 27) A4
      have F5 := tri.alloc (o := .cells #[.int .u64 (k : Nat), .int .i64 (pos (m + 1)), .bool b] 27) F4
      have T5 := tri.alloc (o := .cells #[.int .u64 (k : Nat), .int .i64 (pos (m + 1)), .bool b] 27) T4
      have X5 := tri.alloc (o := .cells #[.int .u64 (k : Nat), .int .i64 (pos (m + 1)), .bool b] 27) X4
      have Y5 : tri (w4.alloc (.cells #[.int .u64 (k : Nat), .int .i64 (pos (m + 1)), .bool b] 27)) w4.heap.size (.int .u64 (k : Nat)) (.int .i64 (pos (m + 1))) (.bool b) := tri.new
      go_region_held3 (fun w' => (w'.cell? ⟨w.heap.size, 0, none⟩ = some (.int .u64 (k : Nat)) ∧ w'.cell? ⟨w.heap.size, 1, none⟩ = some (.int .i64 (p)) ∧ w'.cell? ⟨w.heap.size, 2, none⟩ = some (.bool b)) ∧ (w'.cell? ⟨w1.heap.size, 0, none⟩ = some (.int .u64 (k : Nat)) ∧ w'.cell? ⟨w1.heap.size, 1, none⟩ = some (.int .i64 (pos m)) ∧ w'.cell? ⟨w1.heap.size, 2, none⟩ = some (.bool b)) ∧ (w'.cell? ⟨w1.heap.size + 1, 0, none⟩ = some (.int .u64 (k : Nat)) ∧ w'.cell? ⟨w1.heap.size + 1, 1, none⟩ = some (.int .i64 (pos m)) ∧ w'.cell? ⟨w1.heap.size + 1, 2, none⟩ = some (.bool b)) ∧ (w'.cell? ⟨w3.heap.size, 0, none⟩ = some (.int .u64 (k : Nat)) ∧ w'.cell? ⟨w3.heap.size, 1, none⟩ = some (.int .i64 (pos (m + 1))) ∧ w'.cell? ⟨w3.heap.size, 2, none⟩ = some (.bool b)) ∧ (w'.cell? ⟨w4.heap.size, 0, none⟩ = some (.int .u64 (k : Nat)) ∧ w'.cell? ⟨w4.heap.size, 1, none⟩ = some (.int .i64 (pos (m + 1))) ∧ w'.cell? ⟨w4.heap.size, 2, none⟩ = some (.bool b))) (first | (with_reducible exact ⟨tri.keep A13, tri.keep F13, tri.keep T13, tri.keep X13, tri.keep Y13⟩) | (with_reducible exact ⟨tri.keep A12, tri.keep F12, tri.keep T12, tri.keep X12, tri.keep Y12⟩) | (with_reducible exact ⟨tri.keep A11, tri.keep F11, tri.keep T11, tri.keep X11, tri.keep Y11⟩) | (with_reducible exact ⟨tri.keep A10, tri.keep F10, tri.keep T10, tri.keep X10, tri.keep Y10⟩) | (with_reducible exact ⟨tri.keep (tri.drew A5), tri.keep (tri.drew F5), tri.keep (tri.drew T5), tri.keep (tri.drew X5), tri.keep (tri.drew Y5)⟩) | (with_reducible exact ⟨tri.keep A5, tri.keep F5, tri.keep T5, tri.keep X5, tri.keep Y5⟩) | (go_keep; done))
        (first
        | (go_at_call_of 21 (Value.int .i64 K2); refine (S3.out _).mono ?_; rintro e w12 ⟨rfl, hb12⟩; have A12 := tri.on hb12 A11; have F12 := tri.on hb12 F11; have T12 := tri.on hb12 T11; have X12 := tri.on hb12 X11; have Y12 := tri.on hb12 Y11)
        | (go_at_call_of 21 (Value.agg #[.int .u64 (k : Int), .int .i64 (p), .bool b]); go_at_call_of 21 (Value.int .i64 (m : Int)); refine (S1.out _).mono ?_; rintro e w10 ⟨rfl, hb10⟩; have A10 := tri.on hb10 A5.drew; have F10 := tri.on hb10 F5.drew; have T10 := tri.on hb10 T5.drew; have X10 := tri.on hb10 X5.drew; have Y10 := tri.on hb10 Y5.drew)
        | (go_at_call_of 21 (Value.agg #[.int .u64 (k : Int), .int .i64 (pos m), .bool b]); refine (S2.out _).mono ?_; rintro e w11 ⟨rfl, hb11⟩; have A11 := tri.on hb11 A10; have F11 := tri.on hb11 F10; have T11 := tri.on hb11 T10; have X11 := tri.on hb11 X10; have Y11 := tri.on hb11 Y10)
        | (go_at_call 12; refine (awake_any _).mono ?_; rintro e w13 ⟨rfl, hb13⟩; have A13 := tri.on hb13 A12; have F13 := tri.on hb13 F12; have T13 := tri.on hb13 T12; have X13 := tri.on hb13 X12; have Y13 := tri.on hb13 Y12))
      all_goals
        go_wp2_with fail
        go_ret
        exact ⟨rfl, by (repeat (first | (with_reducible exact Below.refl _ _) | (with_reducible assumption) | (with_reducible apply bl_alloc) | (with_reducible apply bl_drewN) | (with_reducible apply bl_drew) | (with_reducible refine bl_set ?_ (by first | (simp; done) | (simp; omega)) _) | (with_reducible refine bl_call ?_ (by assumption))))⟩
theorem skipP_zero (p : Int) : skipP p 0 = p := by
  unfold skipP
  split
  · rename_i h
    rw [Bool.and_eq_true] at h
    have := okS_true h.1
    omega
  · rfl
theorem skipP_next (p : Int) (m : Nat) : nxtP (skipP p m) = skipP p ((m + 1 : Nat) : Int) := by
  by_cases h : okS p = true
  · obtain ⟨q0, q1⟩ := okS_true h
    rw [skipP_yes h (by omega), skipP_yes h (by omega)]
    unfold nxtP
    split
    · rename_i g
      have := hasS_true g
      omega
    · rename_i g
      have := hasS_false (show hasS _ = false by simpa using g)
      omega
  · have h : okS p = false := by simpa using h
    rw [skipP_no (Or.inl h), skipP_no (Or.inl h)]
    unfold nxtP
    split
    · rename_i g
      have g1 := hasS_true g
      have g2 := okS_false h
      omega
    · rfl
theorem skipP_twice (p : Int) (m : Nat) : skipP (skipP p m) m = skipP p (2 * (m : Int)) := by
  by_cases h : okS p = true
  · obtain ⟨q0, q1⟩ := okS_true h
    rw [skipP_yes h (by omega), skipP_yes h (by omega), skipP_yes (okS_yes (by omega) (by omega)) (by omega)]
    omega
  · have h : okS p = false := by simpa using h
    rw [skipP_no (Or.inl h), skipP_no (Or.inl h), skipP_no (Or.inl h)]
theorem streamSkips_walk (k : Nat) (_ : k < 18446744073709551616) (p : Int) (_ : -9223372036854775808 ≤ p) (_ : p ≤ 9223372036854775807) (b : Bool) (n : Int) (n0 : 0 ≤ n) (n1 : n ≤ 255) (w : World) :
    Calls Try.prog 6 #[.agg #[.int .u64 (k : Nat), .int .i64 (p), .bool (b)], .int .u8 n] w (Gives (.bool true) w) := by
  obtain ⟨K, hK⟩ : ∃ K : Nat, n % 61 = (K : Int) := ⟨(n % 61).toNat, by omega⟩
  have hK2 : n.tmod 61 = (K : Int) := by rw [Int.tmod_eq_emod_of_nonneg n0]; exact hK
  have S2 := skip_any k (skipP p K) b (K : Int)
  rw [skipP_twice] at S2
  refine skips_walk k p b n K (fun m => skipP p (m : Int)) (fun m => nxtU k (skipP p (m : Int)) b) _ _ rfl (by rw [IntKind.wrap_i64]; omega) (by rw [IntKind.wrap_i64]; omega) hK2 (by omega) (skipP_zero p) (Lib.hid (skip_any k p b (K : Int))) (Lib.hid fun m w => ?_) (Lib.hid S2) (Lib.hid (skip_any k p b (2 * (K : Int)))) w
  have h := next_any k (skipP p (m : Int)) b w
  rw [skipP_next] at h
  exact h
end Go.Proofs.Ytjjigcgbdnadcaa
