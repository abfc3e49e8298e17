/-
  The contracts of Skip, Split and Mirror, of the library and of the reference.
-/
import Derived.Test.YtjjigcgbdnadcaaNext
namespace Go.Proofs.Ytjjigcgbdnadcaa
open Go.RowKit
set_option maxHeartbeats 1000000
def skipP (p n : Int) : Int := if okS p && decide (0 ≤ n) then p + min n (1000000000000 - p) else p
theorem skipP_no {p n : Int} (h : okS p = false ∨ n < 0) : skipP p n = p := by
  unfold skipP
  rcases h with h | h
  · rw [h]; rfl
  · rw [decide_eq_false (show ¬ 0 ≤ n by omega), Bool.and_false]; rfl
theorem skipP_yes {p n : Int} (h : okS p = true) (h1 : 0 ≤ n) : skipP p n = p + min n (1000000000000 - p) := by
  unfold skipP; rw [h, decide_eq_true h1]; rfl
theorem skip_any (k : Nat) (p : Int) (b : Bool) (n : Int) (w : World) : Calls Try.prog 21 #[.agg #[.int .u64 (k : Nat), .int .i64 p, .bool b], .int .i64 n] w (Gives (.agg #[.int .u64 (k : Nat), .int .i64 (skipP p n), .bool b]) w) := by
  rcases (show okS p = false ∨ (okS p = true ∧ n < 0) ∨ (okS p = true ∧ 0 ≤ n ∧ n ≤ 1000000000000 - p) ∨ (okS p = true ∧ 0 ≤ n ∧ 1000000000000 - p < n) by (cases okS p <;> simp) <;> omega) with h | ⟨h, h'⟩ | ⟨h, h', h2⟩ | ⟨h, h', h2⟩
  · rw [skipP_no (Or.inl h)]
    have E := Lib.hid (h)
    clear h
    go_enter Try.func21, Try.ntmps21
    go_wp2_with fail
    refine (valid_any _ _ _ _).mono ?_
    rintro e w1 ⟨rfl, hb1⟩
    rw [E.out]
    have A1 : tri w1 (w.heap.size) (.int .u64 k) (.int .i64 p) (.bool b) := tri.call (by refine ⟨?_, ?_, ?_, ?_, ?_, ?_, ?_⟩ <;> first | (go_simp; done) | (simp; done) | (simp; omega)) hb1
    have C1 : tri w1 (w.heap.size + 1) (.int .u64 0) (.int .i64 0) (.bool false) := tri.call (by refine ⟨?_, ?_, ?_, ?_, ?_, ?_, ?_⟩ <;> first | (go_simp; done) | (simp; done) | (simp; omega)) hb1
    obtain ⟨a0, a1, a2, a3, a4, a5, a6⟩ := A1
    have A1 : tri _ _ _ _ _ := ⟨a0, a1, a2, a3, a4, a5, a6⟩
    obtain ⟨c0, c1, c2, c3, c4, c5, c6⟩ := C1
    have C1 : tri _ _ _ _ _ := ⟨c0, c1, c2, c3, c4, c5, c6⟩
    go_wp2_with fail
    exact bodyPost_ret (v := .agg #[.int .u64 (k : Nat), .int .i64 (p), .bool (b)]) (by simp [results, Try.results21, go_sem, *]) rfl ⟨rfl, by repeat (first | exact Below.refl _ _ | assumption | apply bl_alloc | apply bl_drewN | apply bl_drew | (refine bl_set ?_ (by first | (simp; done) | (simp; omega)) _) | (refine bl_call ?_ (by assumption)))⟩
  · rw [skipP_no (Or.inr h')]
    have E := Lib.hid (h)
    clear h
    go_enter Try.func21, Try.ntmps21
    go_wp2_with fail
    refine (valid_any _ _ _ _).mono ?_
    rintro e w1 ⟨rfl, hb1⟩
    rw [E.out]
    have A1 : tri w1 (w.heap.size) (.int .u64 k) (.int .i64 p) (.bool b) := tri.call (by refine ⟨?_, ?_, ?_, ?_, ?_, ?_, ?_⟩ <;> first | (go_simp; done) | (simp; done) | (simp; omega)) hb1
    have C1 : tri w1 (w.heap.size + 1) (.int .u64 0) (.int .i64 0) (.bool false) := tri.call (by refine ⟨?_, ?_, ?_, ?_, ?_, ?_, ?_⟩ <;> first | (go_simp; done) | (simp; done) | (simp; omega)) hb1
    obtain ⟨a0, a1, a2, a3, a4, a5, a6⟩ := A1
    have A1 : tri _ _ _ _ _ := ⟨a0, a1, a2, a3, a4, a5, a6⟩
    obtain ⟨c0, c1, c2, c3, c4, c5, c6⟩ := C1
    have C1 : tri _ _ _ _ _ := ⟨c0, c1, c2, c3, c4, c5, c6⟩
    go_wp2_with fail
    exact bodyPost_ret (v := .agg #[.int .u64 (k : Nat), .int .i64 (p), .bool (b)]) (by simp [results, Try.results21, go_sem, *]) rfl ⟨rfl, by repeat (first | exact Below.refl _ _ | assumption | apply bl_alloc | apply bl_drewN | apply bl_drew | (refine bl_set ?_ (by first | (simp; done) | (simp; omega)) _) | (refine bl_call ?_ (by assumption)))⟩
  · rw [skipP_yes h h', show min n (1000000000000 - p) = n by omega]
    obtain ⟨q0, q1⟩ := okS_true h
    have E := Lib.hid (h)
    clear h
    go_enter Try.func21, Try.ntmps21
    go_wp2_with fail
    refine (valid_any _ _ _ _).mono ?_
    rintro e w1 ⟨rfl, hb1⟩
    rw [E.out]
    have A1 : tri w1 (w.heap.size) (.int .u64 k) (.int .i64 p) (.bool b) := tri.call (by refine ⟨?_, ?_, ?_, ?_, ?_, ?_, ?_⟩ <;> first | (go_simp; done) | (simp; done) | (simp; omega)) hb1
    have C1 : tri w1 (w.heap.size + 1) (.int .u64 0) (.int .i64 0) (.bool false) := tri.call (by refine ⟨?_, ?_, ?_, ?_, ?_, ?_, ?_⟩ <;> first | (go_simp; done) | (simp; done) | (simp; omega)) hb1
    obtain ⟨a0, a1, a2, a3, a4, a5, a6⟩ := A1
    have A1 : tri _ _ _ _ _ := ⟨a0, a1, a2, a3, a4, a5, a6⟩
    obtain ⟨c0, c1, c2, c3, c4, c5, c6⟩ := C1
    have C1 : tri _ _ _ _ _ := ⟨c0, c1, c2, c3, c4, c5, c6⟩
    go_wp2_with fail
    exact bodyPost_ret (v := .agg #[.int .u64 (k : Nat), .int .i64 (p + n), .bool (b)]) (by simp [results, Try.results21, go_sem, *]) rfl ⟨rfl, by repeat (first | exact Below.refl _ _ | assumption | apply bl_alloc | apply bl_drewN | apply bl_drew | (refine bl_set ?_ (by first | (simp; done) | (simp; omega)) _) | (refine bl_call ?_ (by assumption)))⟩
  · rw [skipP_yes h h', show min n (1000000000000 - p) = 1000000000000 - p by omega]
    obtain ⟨q0, q1⟩ := okS_true h
    have E := Lib.hid (h)
    clear h
    go_enter Try.func21, Try.ntmps21
    go_wp2_with fail
    refine (valid_any _ _ _ _).mono ?_
    rintro e w1 ⟨rfl, hb1⟩
    rw [E.out]
    have A1 : tri w1 (w.heap.size) (.int .u64 k) (.int .i64 p) (.bool b) := tri.call (by refine ⟨?_, ?_, ?_, ?_, ?_, ?_, ?_⟩ <;> first | (go_simp; done) | (simp; done) | (simp; omega)) hb1
    have C1 : tri w1 (w.heap.size + 1) (.int .u64 0) (.int .i64 0) (.bool false) := tri.call (by refine ⟨?_, ?_, ?_, ?_, ?_, ?_, ?_⟩ <;> first | (go_simp; done) | (simp; done) | (simp; omega)) hb1
    obtain ⟨a0, a1, a2, a3, a4, a5, a6⟩ := A1
    have A1 : tri _ _ _ _ _ := ⟨a0, a1, a2, a3, a4, a5, a6⟩
    obtain ⟨c0, c1, c2, c3, c4, c5, c6⟩ := C1
    have C1 : tri _ _ _ _ _ := ⟨c0, c1, c2, c3, c4, c5, c6⟩
    go_wp2_with fail
    exact bodyPost_ret (v := .agg #[.int .u64 (k : Nat), .int .i64 (p + (1000000000000 - p)), .bool (b)]) (by simp [results, Try.results21, go_sem, *]) rfl ⟨rfl, by repeat (first | exact Below.refl _ _ | assumption | apply bl_alloc | apply bl_drewN | apply bl_drew | (refine bl_set ?_ (by first | (simp; done) | (simp; omega)) _) | (refine bl_call ?_ (by assumption)))⟩
theorem rskip_any (k : Nat) (p : Int) (b : Bool) (n : Int) (w : World) : Calls Try.prog 22 #[.agg #[.int .u64 (k : Nat), .int .i64 p, .bool b], .int .i64 n] w (Gives (.agg #[.int .u64 (k : Nat), .int .i64 (skipP p n), .bool b]) w) := by
  rcases (show okS p = false ∨ (okS p = true ∧ n < 0) ∨ (okS p = true ∧ 0 ≤ n ∧ n ≤ 1000000000000 - p) ∨ (okS p = true ∧ 0 ≤ n ∧ 1000000000000 - p < n) by (cases okS p <;> simp) <;> omega) with h | ⟨h, h'⟩ | ⟨h, h', h2⟩ | ⟨h, h', h2⟩
  · rw [skipP_no (Or.inl h)]
    have E := Lib.hid (errS_no h)
    clear h
    go_enter Try.func22, Try.ntmps22
    go_wp2_with fail
    refine (rcheck_any _ _ _ _).mono ?_
    rintro e w1 ⟨rfl, hb1⟩
    rw [E.out]
    have A1 : tri w1 (w.heap.size) (.int .u64 k) (.int .i64 p) (.bool b) := tri.call (by refine ⟨?_, ?_, ?_, ?_, ?_, ?_, ?_⟩ <;> first | (go_simp; done) | (simp; done) | (simp; omega)) hb1
    have C1 : tri w1 (w.heap.size + 1) (.int .u64 0) (.int .i64 0) (.bool false) := tri.call (by refine ⟨?_, ?_, ?_, ?_, ?_, ?_, ?_⟩ <;> first | (go_simp; done) | (simp; done) | (simp; omega)) hb1
    obtain ⟨a0, a1, a2, a3, a4, a5, a6⟩ := A1
    have A1 : tri _ _ _ _ _ := ⟨a0, a1, a2, a3, a4, a5, a6⟩
    obtain ⟨c0, c1, c2, c3, c4, c5, c6⟩ := C1
    have C1 : tri _ _ _ _ _ := ⟨c0, c1, c2, c3, c4, c5, c6⟩
    go_wp2_with fail
    exact bodyPost_ret (v := .agg #[.int .u64 (k : Nat), .int .i64 (p), .bool (b)]) (by simp [results, Try.results22, go_sem, *]) rfl ⟨rfl, by repeat (first | exact Below.refl _ _ | assumption | apply bl_alloc | apply bl_drewN | apply bl_drew | (refine bl_set ?_ (by first | (simp; done) | (simp; omega)) _) | (refine bl_call ?_ (by assumption)))⟩
  · rw [skipP_no (Or.inr h')]
    have E := Lib.hid (errS_yes h)
    clear h
    go_enter Try.func22, Try.ntmps22
    go_wp2_with fail
    refine (rcheck_any _ _ _ _).mono ?_
    rintro e w1 ⟨rfl, hb1⟩
    rw [E.out]
    have A1 : tri w1 (w.heap.size) (.int .u64 k) (.int .i64 p) (.bool b) := tri.call (by refine ⟨?_, ?_, ?_, ?_, ?_, ?_, ?_⟩ <;> first | (go_simp; done) | (simp; done) | (simp; omega)) hb1
    have C1 : tri w1 (w.heap.size + 1) (.int .u64 0) (.int .i64 0) (.bool false) := tri.call (by refine ⟨?_, ?_, ?_, ?_, ?_, ?_, ?_⟩ <;> first | (go_simp; done) | (simp; done) | (simp; omega)) hb1
    obtain ⟨a0, a1, a2, a3, a4, a5, a6⟩ := A1
    have A1 : tri _ _ _ _ _ := ⟨a0, a1, a2, a3, a4, a5, a6⟩
    obtain ⟨c0, c1, c2, c3, c4, c5, c6⟩ := C1
    have C1 : tri _ _ _ _ _ := ⟨c0, c1, c2, c3, c4, c5, c6⟩
    go_wp2_with fail
    exact bodyPost_ret (v := .agg #[.int .u64 (k : Nat), .int .i64 (p), .bool (b)]) (by simp [results, Try.results22, go_sem, *]) rfl ⟨rfl, by repeat (first | exact Below.refl _ _ | assumption | apply bl_alloc | apply bl_drewN | apply bl_drew | (refine bl_set ?_ (by first | (simp; done) | (simp; omega)) _) | (refine bl_call ?_ (by assumption)))⟩
  · rw [skipP_yes h h', show min n (1000000000000 - p) = n by omega]
    obtain ⟨q0, q1⟩ := okS_true h
    have E := Lib.hid (errS_yes h)
    clear h
    go_enter Try.func22, Try.ntmps22
    go_wp2_with fail
    refine (rcheck_any _ _ _ _).mono ?_
    rintro e w1 ⟨rfl, hb1⟩
    rw [E.out]
    have A1 : tri w1 (w.heap.size) (.int .u64 k) (.int .i64 p) (.bool b) := tri.call (by refine ⟨?_, ?_, ?_, ?_, ?_, ?_, ?_⟩ <;> first | (go_simp; done) | (simp; done) | (simp; omega)) hb1
    have C1 : tri w1 (w.heap.size + 1) (.int .u64 0) (.int .i64 0) (.bool false) := tri.call (by refine ⟨?_, ?_, ?_, ?_, ?_, ?_, ?_⟩ <;> first | (go_simp; done) | (simp; done) | (simp; omega)) hb1
    obtain ⟨a0, a1, a2, a3, a4, a5, a6⟩ := A1
    have A1 : tri _ _ _ _ _ := ⟨a0, a1, a2, a3, a4, a5, a6⟩
    obtain ⟨c0, c1, c2, c3, c4, c5, c6⟩ := C1
    have C1 : tri _ _ _ _ _ := ⟨c0, c1, c2, c3, c4, c5, c6⟩
    go_wp2_with fail
    exact bodyPost_ret (v := .agg #[.int .u64 (k : Nat), .int .i64 (p + n), .bool (b)]) (by simp [results, Try.results22, go_sem, *]) rfl ⟨rfl, by repeat (first | exact Below.refl _ _ | assumption | apply bl_alloc | apply bl_drewN | apply bl_drew | (refine bl_set ?_ (by first | (simp; done) | (simp; omega)) _) | (refine bl_call ?_ (by assumption)))⟩
  · rw [skipP_yes h h', show min n (1000000000000 - p) = 1000000000000 - p by omega]
    obtain ⟨q0, q1⟩ := okS_true h
    have E := Lib.hid (errS_yes h)
    clear h
    go_enter Try.func22, Try.ntmps22
    go_wp2_with fail
    refine (rcheck_any _ _ _ _).mono ?_
    rintro e w1 ⟨rfl, hb1⟩
    rw [E.out]
    have A1 : tri w1 (w.heap.size) (.int .u64 k) (.int .i64 p) (.bool b) := tri.call (by refine ⟨?_, ?_, ?_, ?_, ?_, ?_, ?_⟩ <;> first | (go_simp; done) | (simp; done) | (simp; omega)) hb1
    have C1 : tri w1 (w.heap.size + 1) (.int .u64 0) (.int .i64 0) (.bool false) := tri.call (by refine ⟨?_, ?_, ?_, ?_, ?_, ?_, ?_⟩ <;> first | (go_simp; done) | (simp; done) | (simp; omega)) hb1
    obtain ⟨a0, a1, a2, a3, a4, a5, a6⟩ := A1
    have A1 : tri _ _ _ _ _ := ⟨a0, a1, a2, a3, a4, a5, a6⟩
    obtain ⟨c0, c1, c2, c3, c4, c5, c6⟩ := C1
    have C1 : tri _ _ _ _ _ := ⟨c0, c1, c2, c3, c4, c5, c6⟩
    go_wp2_with fail
    exact bodyPost_ret (v := .agg #[.int .u64 (k : Nat), .int .i64 (p + (1000000000000 - p)), .bool (b)]) (by simp [results, Try.results22, go_sem, *]) rfl ⟨rfl, by repeat (first | exact Below.refl _ _ | assumption | apply bl_alloc | apply bl_drewN | apply bl_drew | (refine bl_set ?_ (by first | (simp; done) | (simp; omega)) _) | (refine bl_call ?_ (by assumption)))⟩
def mirB (p : Int) (b : Bool) : Bool := if okS p then !b else b
theorem mirror_any (k : Nat) (p : Int) (b : Bool) (w : World) : Calls Try.prog 25 #[.agg #[.int .u64 (k : Nat), .int .i64 p, .bool b]] w (Gives (.agg #[.int .u64 (k : Nat), .int .i64 p, .bool (mirB p b)]) w) := by
  cases h : okS p
  · rw [show mirB p b = b by unfold mirB; rw [h]; rfl]
    have E := Lib.hid h
    clear h
    go_enter Try.func25, Try.ntmps25
    go_wp2_with fail
    refine (valid_any _ _ _ _).mono ?_
    rintro e w1 ⟨rfl, hb1⟩
    rw [E.out]
    have A1 : tri w1 (w.heap.size) (.int .u64 k) (.int .i64 p) (.bool b) := tri.call (by refine ⟨?_, ?_, ?_, ?_, ?_, ?_, ?_⟩ <;> first | (go_simp; done) | (simp; done) | (simp; omega)) hb1
    have C1 : tri w1 (w.heap.size + 1) (.int .u64 0) (.int .i64 0) (.bool false) := tri.call (by refine ⟨?_, ?_, ?_, ?_, ?_, ?_, ?_⟩ <;> first | (go_simp; done) | (simp; done) | (simp; omega)) hb1
    obtain ⟨a0, a1, a2, a3, a4, a5, a6⟩ := A1
    have A1 : tri _ _ _ _ _ := ⟨a0, a1, a2, a3, a4, a5, a6⟩
    obtain ⟨c0, c1, c2, c3, c4, c5, c6⟩ := C1
    have C1 : tri _ _ _ _ _ := ⟨c0, c1, c2, c3, c4, c5, c6⟩
    go_wp2_with fail
    exact bodyPost_ret (v := .agg #[.int .u64 (k : Nat), .int .i64 (p), .bool (b)]) (by simp [results, Try.results25, go_sem, *]) rfl ⟨rfl, by repeat (first | exact Below.refl _ _ | assumption | apply bl_alloc | apply bl_drewN | apply bl_drew | (refine bl_set ?_ (by first | (simp; done) | (simp; omega)) _) | (refine bl_call ?_ (by assumption)))⟩
  · rw [show mirB p b = !b by unfold mirB; rw [h]; rfl]
    have E := Lib.hid h
    clear h
    go_enter Try.func25, Try.ntmps25
    go_wp2_with fail
    refine (valid_any _ _ _ _).mono ?_
    rintro e w1 ⟨rfl, hb1⟩
    rw [E.out]
    have A1 : tri w1 (w.heap.size) (.int .u64 k) (.int .i64 p) (.bool b) := tri.call (by refine ⟨?_, ?_, ?_, ?_, ?_, ?_, ?_⟩ <;> first | (go_simp; done) | (simp; done) | (simp; omega)) hb1
    have C1 : tri w1 (w.heap.size + 1) (.int .u64 0) (.int .i64 0) (.bool false) := tri.call (by refine ⟨?_, ?_, ?_, ?_, ?_, ?_, ?_⟩ <;> first | (go_simp; done) | (simp; done) | (simp; omega)) hb1
    obtain ⟨a0, a1, a2, a3, a4, a5, a6⟩ := A1
    have A1 : tri _ _ _ _ _ := ⟨a0, a1, a2, a3, a4, a5, a6⟩
    obtain ⟨c0, c1, c2, c3, c4, c5, c6⟩ := C1
    have C1 : tri _ _ _ _ _ := ⟨c0, c1, c2, c3, c4, c5, c6⟩
    go_wp2_with fail
    exact bodyPost_ret (v := .agg #[.int .u64 (k : Nat), .int .i64 (p), .bool (!b)]) (by simp [results, Try.results25, go_sem, *]) rfl ⟨rfl, by repeat (first | exact Below.refl _ _ | assumption | apply bl_alloc | apply bl_drewN | apply bl_drew | (refine bl_set ?_ (by first | (simp; done) | (simp; omega)) _) | (refine bl_call ?_ (by assumption)))⟩
theorem rmirror_any (k : Nat) (p : Int) (b : Bool) (w : World) : Calls Try.prog 26 #[.agg #[.int .u64 (k : Nat), .int .i64 p, .bool b]] w (Gives (.agg #[.int .u64 (k : Nat), .int .i64 p, .bool (mirB p b)]) w) := by
  cases h : okS p
  · rw [show mirB p b = b by unfold mirB; rw [h]; rfl]
    have E := Lib.hid (errS_no h)
    clear h
    go_enter Try.func26, Try.ntmps26
    go_wp2_with fail
    refine (rcheck_any _ _ _ _).mono ?_
    rintro e w1 ⟨rfl, hb1⟩
    rw [E.out]
    have A1 : tri w1 (w.heap.size) (.int .u64 k) (.int .i64 p) (.bool b) := tri.call (by refine ⟨?_, ?_, ?_, ?_, ?_, ?_, ?_⟩ <;> first | (go_simp; done) | (simp; done) | (simp; omega)) hb1
    have C1 : tri w1 (w.heap.size + 1) (.int .u64 0) (.int .i64 0) (.bool false) := tri.call (by refine ⟨?_, ?_, ?_, ?_, ?_, ?_, ?_⟩ <;> first | (go_simp; done) | (simp; done) | (simp; omega)) hb1
    obtain ⟨a0, a1, a2, a3, a4, a5, a6⟩ := A1
    have A1 : tri _ _ _ _ _ := ⟨a0, a1, a2, a3, a4, a5, a6⟩
    obtain ⟨c0, c1, c2, c3, c4, c5, c6⟩ := C1
    have C1 : tri _ _ _ _ _ := ⟨c0, c1, c2, c3, c4, c5, c6⟩
    go_wp2_with fail
    exact bodyPost_ret (v := .agg #[.int .u64 (k : Nat), .int .i64 (p), .bool (b)]) (by simp [results, Try.results26, go_sem, *]) rfl ⟨rfl, by repeat (first | exact Below.refl _ _ | assumption | apply bl_alloc | apply bl_drewN | apply bl_drew | (refine bl_set ?_ (by first | (simp; done) | (simp; omega)) _) | (refine bl_call ?_ (by assumption)))⟩
  · rw [show mirB p b = !b by unfold mirB; rw [h]; rfl]
    have E := Lib.hid (errS_yes h)
    clear h
    go_enter Try.func26, Try.ntmps26
    go_wp2_with fail
    refine (rcheck_any _ _ _ _).mono ?_
    rintro e w1 ⟨rfl, hb1⟩
    rw [E.out]
    have A1 : tri w1 (w.heap.size) (.int .u64 k) (.int .i64 p) (.bool b) := tri.call (by refine ⟨?_, ?_, ?_, ?_, ?_, ?_, ?_⟩ <;> first | (go_simp; done) | (simp; done) | (simp; omega)) hb1
    have C1 : tri w1 (w.heap.size + 1) (.int .u64 0) (.int .i64 0) (.bool false) := tri.call (by refine ⟨?_, ?_, ?_, ?_, ?_, ?_, ?_⟩ <;> first | (go_simp; done) | (simp; done) | (simp; omega)) hb1
    obtain ⟨a0, a1, a2, a3, a4, a5, a6⟩ := A1
    have A1 : tri _ _ _ _ _ := ⟨a0, a1, a2, a3, a4, a5, a6⟩
    obtain ⟨c0, c1, c2, c3, c4, c5, c6⟩ := C1
    have C1 : tri _ _ _ _ _ := ⟨c0, c1, c2, c3, c4, c5, c6⟩
    go_wp2_with fail
    exact bodyPost_ret (v := .agg #[.int .u64 (k : Nat), .int .i64 (p), .bool (!b)]) (by simp [results, Try.results26, go_sem, *]) rfl ⟨rfl, by repeat (first | exact Below.refl _ _ | assumption | apply bl_alloc | apply bl_drewN | apply bl_drew | (refine bl_set ?_ (by first | (simp; done) | (simp; omega)) _) | (refine bl_call ?_ (by assumption)))⟩
end Go.Proofs.Ytjjigcgbdnadcaa
