/-
  The contracts of Below, of the library and of the reference.
-/
import Derived.Test.YtjjigcgbdnadcaaHigh
namespace Go.Proofs.Ytjjigcgbdnadcaa
open Go.RowKit
set_option maxHeartbeats 1000000
def small (P : Nat) : Prop := P < 1000000000000
def belB (p n : Int) : Bool := hasS p && decide (1 ≤ n ∧ n ≤ 1000000000000)
theorem belB_ways {p n : Int} (h : belB p n = false) : hasS p = false ∨ (hasS p = true ∧ n < 1) ∨ (hasS p = true ∧ 1 ≤ n ∧ 1000000000000 < n) := by
  unfold belB at h
  by_cases e : hasS p = true
  · rw [e, Bool.true_and] at h
    have := of_decide_eq_false h
    rcases Int.lt_or_le n 1 with h1 | h1
    · exact Or.inr (Or.inl ⟨e, h1⟩)
    · exact Or.inr (Or.inr ⟨e, h1, by omega⟩)
  · exact Or.inl (by simpa using e)
theorem below_no (k : Nat) (p : Int) (b : Bool) (n : Int) (h : belB p n = false) (w : World) : Calls Try.prog 18 #[.agg #[.int .u64 (k : Nat), .int .i64 p, .bool b], .int .i64 n] w (Gives (.tuple #[.int .i64 0, .agg #[.int .u64 (k : Nat), .int .i64 p, .bool b], .bool false]) w) := by
  rcases belB_ways h with h | ⟨h, h'⟩ | ⟨h, h', h2⟩
  · have E := Lib.hid h
    clear h
    go_enter Try.func18, Try.ntmps18
    go_wp2_with fail
    refine (has_any _ _ _ _).mono ?_
    rintro e w1 ⟨rfl, hb1⟩
    rw [E.out]
    have A1 : tri w1 (w.heap.size) (.int .u64 k) (.int .i64 p) (.bool b) := tri.call (by refine ⟨?_, ?_, ?_, ?_, ?_, ?_, ?_⟩ <;> first | (go_simp; done) | (simp; done) | (simp; omega)) hb1
    have C1 : tri w1 (w.heap.size + 1) (.int .u64 0) (.int .i64 0) (.bool false) := tri.call (by refine ⟨?_, ?_, ?_, ?_, ?_, ?_, ?_⟩ <;> first | (go_simp; done) | (simp; done) | (simp; omega)) hb1
    obtain ⟨a0, a1, a2, a3, a4, a5, a6⟩ := A1
    have A1 : tri _ _ _ _ _ := ⟨a0, a1, a2, a3, a4, a5, a6⟩
    obtain ⟨c0, c1, c2, c3, c4, c5, c6⟩ := C1
    have C1 : tri _ _ _ _ _ := ⟨c0, c1, c2, c3, c4, c5, c6⟩
    go_wp2_with fail
    go_region
    all_goals
      go_wp2_with fail
      exact bodyPost_ret (v := .tuple #[.int .i64 0, .agg #[.int .u64 (k : Nat), .int .i64 p, .bool b], .bool false]) (by simp [results, Try.results18, go_sem, *]) rfl ⟨rfl, by repeat (first | exact Below.refl _ _ | assumption | apply bl_alloc | apply bl_drewN | apply bl_drew | (refine bl_set ?_ (by first | (simp; done) | (simp; omega)) _) | (refine bl_call ?_ (by assumption)))⟩
  · have E := Lib.hid h
    clear h
    go_enter Try.func18, Try.ntmps18
    go_wp2_with fail
    refine (has_any _ _ _ _).mono ?_
    rintro e w1 ⟨rfl, hb1⟩
    rw [E.out]
    have A1 : tri w1 (w.heap.size) (.int .u64 k) (.int .i64 p) (.bool b) := tri.call (by refine ⟨?_, ?_, ?_, ?_, ?_, ?_, ?_⟩ <;> first | (go_simp; done) | (simp; done) | (simp; omega)) hb1
    have C1 : tri w1 (w.heap.size + 1) (.int .u64 0) (.int .i64 0) (.bool false) := tri.call (by refine ⟨?_, ?_, ?_, ?_, ?_, ?_, ?_⟩ <;> first | (go_simp; done) | (simp; done) | (simp; omega)) hb1
    obtain ⟨a0, a1, a2, a3, a4, a5, a6⟩ := A1
    have A1 : tri _ _ _ _ _ := ⟨a0, a1, a2, a3, a4, a5, a6⟩
    obtain ⟨c0, c1, c2, c3, c4, c5, c6⟩ := C1
    have C1 : tri _ _ _ _ _ := ⟨c0, c1, c2, c3, c4, c5, c6⟩
    go_wp2_with fail
    go_region
    all_goals
      go_wp2_with fail
      exact bodyPost_ret (v := .tuple #[.int .i64 0, .agg #[.int .u64 (k : Nat), .int .i64 p, .bool b], .bool false]) (by simp [results, Try.results18, go_sem, *]) rfl ⟨rfl, by repeat (first | exact Below.refl _ _ | assumption | apply bl_alloc | apply bl_drewN | apply bl_drew | (refine bl_set ?_ (by first | (simp; done) | (simp; omega)) _) | (refine bl_call ?_ (by assumption)))⟩
  · have E := Lib.hid h
    clear h
    go_enter Try.func18, Try.ntmps18
    go_wp2_with fail
    refine (has_any _ _ _ _).mono ?_
    rintro e w1 ⟨rfl, hb1⟩
    rw [E.out]
    have A1 : tri w1 (w.heap.size) (.int .u64 k) (.int .i64 p) (.bool b) := tri.call (by refine ⟨?_, ?_, ?_, ?_, ?_, ?_, ?_⟩ <;> first | (go_simp; done) | (simp; done) | (simp; omega)) hb1
    have C1 : tri w1 (w.heap.size + 1) (.int .u64 0) (.int .i64 0) (.bool false) := tri.call (by refine ⟨?_, ?_, ?_, ?_, ?_, ?_, ?_⟩ <;> first | (go_simp; done) | (simp; done) | (simp; omega)) hb1
    obtain ⟨a0, a1, a2, a3, a4, a5, a6⟩ := A1
    have A1 : tri _ _ _ _ _ := ⟨a0, a1, a2, a3, a4, a5, a6⟩
    obtain ⟨c0, c1, c2, c3, c4, c5, c6⟩ := C1
    have C1 : tri _ _ _ _ _ := ⟨c0, c1, c2, c3, c4, c5, c6⟩
    go_wp2_with fail
    go_region
    all_goals
      go_wp2_with fail
      exact bodyPost_ret (v := .tuple #[.int .i64 0, .agg #[.int .u64 (k : Nat), .int .i64 p, .bool b], .bool false]) (by simp [results, Try.results18, go_sem, *]) rfl ⟨rfl, by repeat (first | exact Below.refl _ _ | assumption | apply bl_alloc | apply bl_drewN | apply bl_drew | (refine bl_set ?_ (by first | (simp; done) | (simp; omega)) _) | (refine bl_call ?_ (by assumption)))⟩
theorem below_yes (k P : Nat) (n : Int) (b : Bool) (u v l : Nat) (hP : small P) (n1 : decide (n < 1) = false) (n2 : decide ((1000000000000 : Int) < n) = false) (n3 : IntKind.u64.wrap n = n) (U : Hid (nextU k P b = u)) (hv : IntKind.i64.wrap (v : Int) = (v : Int)) (E : Hid (hasS (P : Int) = true))
    (M : Hid (∀ w, Calls Try.prog 29 #[.int .u64 u, .int .u64 n] w fun e w' => e = .returned (.tuple #[.int .u64 (v : Int), .int .u64 (l : Int)]) ∧ w = w'))
    (w : World) : Calls Try.prog 18 #[.agg #[.int .u64 (k : Nat), .int .i64 (P : Int), .bool b], .int .i64 n] w (Gives (.tuple #[.int .i64 (v : Int), .agg #[.int .u64 (k : Nat), .int .i64 ((P : Int) + 1), .bool b], .bool true]) w) := by
  go_enter Try.func18, Try.ntmps18
  go_wp2_with fail
  refine (has_any _ _ _ _).mono ?_
  rintro e w1 ⟨rfl, hb1⟩
  rw [E.out]
  have A1 : tri w1 (w.heap.size) (.int .u64 k) (.int .i64 (P : Int)) (.bool b) := tri.call (by refine ⟨?_, ?_, ?_, ?_, ?_, ?_, ?_⟩ <;> first | (go_simp; done) | (simp; done) | (simp; omega)) hb1
  have C1 : tri w1 (w.heap.size + 1) (.int .u64 0) (.int .i64 0) (.bool false) := tri.call (by refine ⟨?_, ?_, ?_, ?_, ?_, ?_, ?_⟩ <;> first | (go_simp; done) | (simp; done) | (simp; omega)) hb1
  obtain ⟨a0, a1, a2, a3, a4, a5, a6⟩ := A1
  have A1 : tri _ _ _ _ _ := ⟨a0, a1, a2, a3, a4, a5, a6⟩
  obtain ⟨c0, c1, c2, c3, c4, c5, c6⟩ := C1
  have C1 : tri _ _ _ _ _ := ⟨c0, c1, c2, c3, c4, c5, c6⟩
  go_wp2_with fail
  refine (next_yes k P b hP _).mono ?_
  rintro e w2 ⟨rfl, hb2⟩
  rw [U.out]
  clear hP U
  have A2 := tri.on hb2 A1
  have C2 := tri.on hb2 C1
  clear a0 a1 a2 a3 a4 a5 a6 c0 c1 c2 c3 c4 c5 c6 A1 C1
  obtain ⟨a0, a1, a2, a3, a4, a5, a6⟩ := A2
  have A2 : tri _ _ _ _ _ := ⟨a0, a1, a2, a3, a4, a5, a6⟩
  obtain ⟨c0, c1, c2, c3, c4, c5, c6⟩ := C2
  have C2 : tri _ _ _ _ _ := ⟨c0, c1, c2, c3, c4, c5, c6⟩
  go_wp2_with fail
  refine (M.out _).mono ?_
  rintro e w3 ⟨rfl, rfl⟩
  have z1 := hb2.size
  go_wp2_with fail
  go_region
  all_goals
    go_wp2_with fail
    exact bodyPost_ret (v := .tuple #[.int .i64 (v : Int), .agg #[.int .u64 (k : Nat), .int .i64 ((P : Int) + 1), .bool b], .bool true]) (by simp [results, Try.results18, go_sem, *]) rfl ⟨rfl, by repeat (first | exact Below.refl _ _ | assumption | apply bl_alloc | apply bl_drewN | apply bl_drew | (refine bl_set ?_ (by first | (simp; done) | (simp; omega)) _) | (refine bl_call ?_ (by assumption)))⟩
theorem rbelow_no (k : Nat) (p : Int) (b : Bool) (n : Int) (h : belB p n = false) (w : World) : Calls Try.prog 19 #[.agg #[.int .u64 (k : Nat), .int .i64 p, .bool b], .int .i64 n] w (Gives (.tuple #[.int .i64 0, .agg #[.int .u64 (k : Nat), .int .i64 p, .bool b], .bool false]) w) := by
  rcases belB_ways h with h | ⟨h, h'⟩ | ⟨h, h', h2⟩
  · have E : Hid ((!hasS p) = true) := Lib.hid (by rw [h]; rfl)
    clear h
    go_enter Try.func19, Try.ntmps19
    go_wp2_with fail
    refine (ends_any _ _ _ _).mono ?_
    rintro e w1 ⟨rfl, hb1⟩
    rw [E.out]
    have A1 : tri w1 (w.heap.size) (.int .u64 k) (.int .i64 p) (.bool b) := tri.call (by refine ⟨?_, ?_, ?_, ?_, ?_, ?_, ?_⟩ <;> first | (go_simp; done) | (simp; done) | (simp; omega)) hb1
    have C1 : tri w1 (w.heap.size + 1) (.int .u64 0) (.int .i64 0) (.bool false) := tri.call (by refine ⟨?_, ?_, ?_, ?_, ?_, ?_, ?_⟩ <;> first | (go_simp; done) | (simp; done) | (simp; omega)) hb1
    obtain ⟨a0, a1, a2, a3, a4, a5, a6⟩ := A1
    have A1 : tri _ _ _ _ _ := ⟨a0, a1, a2, a3, a4, a5, a6⟩
    obtain ⟨c0, c1, c2, c3, c4, c5, c6⟩ := C1
    have C1 : tri _ _ _ _ _ := ⟨c0, c1, c2, c3, c4, c5, c6⟩
    go_wp2_with fail
    go_region
    all_goals
      go_wp2_with fail
      exact bodyPost_ret (v := .tuple #[.int .i64 0, .agg #[.int .u64 (k : Nat), .int .i64 p, .bool b], .bool false]) (by simp [results, Try.results19, go_sem, *]) rfl ⟨rfl, by repeat (first | exact Below.refl _ _ | assumption | apply bl_alloc | apply bl_drewN | apply bl_drew | (refine bl_set ?_ (by first | (simp; done) | (simp; omega)) _) | (refine bl_call ?_ (by assumption)))⟩
  · have E : Hid ((!hasS p) = false) := Lib.hid (by rw [h]; rfl)
    clear h
    go_enter Try.func19, Try.ntmps19
    go_wp2_with fail
    refine (ends_any _ _ _ _).mono ?_
    rintro e w1 ⟨rfl, hb1⟩
    rw [E.out]
    have A1 : tri w1 (w.heap.size) (.int .u64 k) (.int .i64 p) (.bool b) := tri.call (by refine ⟨?_, ?_, ?_, ?_, ?_, ?_, ?_⟩ <;> first | (go_simp; done) | (simp; done) | (simp; omega)) hb1
    have C1 : tri w1 (w.heap.size + 1) (.int .u64 0) (.int .i64 0) (.bool false) := tri.call (by refine ⟨?_, ?_, ?_, ?_, ?_, ?_, ?_⟩ <;> first | (go_simp; done) | (simp; done) | (simp; omega)) hb1
    obtain ⟨a0, a1, a2, a3, a4, a5, a6⟩ := A1
    have A1 : tri _ _ _ _ _ := ⟨a0, a1, a2, a3, a4, a5, a6⟩
    obtain ⟨c0, c1, c2, c3, c4, c5, c6⟩ := C1
    have C1 : tri _ _ _ _ _ := ⟨c0, c1, c2, c3, c4, c5, c6⟩
    go_wp2_with fail
    go_region
    all_goals
      go_wp2_with fail
      exact bodyPost_ret (v := .tuple #[.int .i64 0, .agg #[.int .u64 (k : Nat), .int .i64 p, .bool b], .bool false]) (by simp [results, Try.results19, go_sem, *]) rfl ⟨rfl, by repeat (first | exact Below.refl _ _ | assumption | apply bl_alloc | apply bl_drewN | apply bl_drew | (refine bl_set ?_ (by first | (simp; done) | (simp; omega)) _) | (refine bl_call ?_ (by assumption)))⟩
  · have E : Hid ((!hasS p) = false) := Lib.hid (by rw [h]; rfl)
    clear h
    go_enter Try.func19, Try.ntmps19
    go_wp2_with fail
    refine (ends_any _ _ _ _).mono ?_
    rintro e w1 ⟨rfl, hb1⟩
    rw [E.out]
    have A1 : tri w1 (w.heap.size) (.int .u64 k) (.int .i64 p) (.bool b) := tri.call (by refine ⟨?_, ?_, ?_, ?_, ?_, ?_, ?_⟩ <;> first | (go_simp; done) | (simp; done) | (simp; omega)) hb1
    have C1 : tri w1 (w.heap.size + 1) (.int .u64 0) (.int .i64 0) (.bool false) := tri.call (by refine ⟨?_, ?_, ?_, ?_, ?_, ?_, ?_⟩ <;> first | (go_simp; done) | (simp; done) | (simp; omega)) hb1
    obtain ⟨a0, a1, a2, a3, a4, a5, a6⟩ := A1
    have A1 : tri _ _ _ _ _ := ⟨a0, a1, a2, a3, a4, a5, a6⟩
    obtain ⟨c0, c1, c2, c3, c4, c5, c6⟩ := C1
    have C1 : tri _ _ _ _ _ := ⟨c0, c1, c2, c3, c4, c5, c6⟩
    go_wp2_with fail
    go_region
    all_goals
      go_wp2_with fail
      exact bodyPost_ret (v := .tuple #[.int .i64 0, .agg #[.int .u64 (k : Nat), .int .i64 p, .bool b], .bool false]) (by simp [results, Try.results19, go_sem, *]) rfl ⟨rfl, by repeat (first | exact Below.refl _ _ | assumption | apply bl_alloc | apply bl_drewN | apply bl_drew | (refine bl_set ?_ (by first | (simp; done) | (simp; omega)) _) | (refine bl_call ?_ (by assumption)))⟩
theorem rbelow_yes (k P : Nat) (n : Int) (b : Bool) (u v : Nat) (hP : small P) (n1 : decide (n < 1) = false) (n2 : decide ((1000000000000 : Int) < n) = false) (n3 : IntKind.u64.wrap n = n) (U : Hid (nextU k P b = u)) (hv : IntKind.i64.wrap (v : Int) = (v : Int)) (E : Hid ((!hasS (P : Int)) = false))
    (M : Hid (∀ w, Calls Try.prog 30 #[.int .u64 u, .int .u64 n] w fun e w' => e = .returned (.int .u64 (v : Int)) ∧ w = w'))
    (w : World) : Calls Try.prog 19 #[.agg #[.int .u64 (k : Nat), .int .i64 (P : Int), .bool b], .int .i64 n] w (Gives (.tuple #[.int .i64 (v : Int), .agg #[.int .u64 (k : Nat), .int .i64 ((P : Int) + 1), .bool b], .bool true]) w) := by
  go_enter Try.func19, Try.ntmps19
  go_wp2_with fail
  refine (ends_any _ _ _ _).mono ?_
  rintro e w1 ⟨rfl, hb1⟩
  rw [E.out]
  have A1 : tri w1 (w.heap.size) (.int .u64 k) (.int .i64 (P : Int)) (.bool b) := tri.call (by refine ⟨?_, ?_, ?_, ?_, ?_, ?_, ?_⟩ <;> first | (go_simp; done) | (simp; done) | (simp; omega)) hb1
  have C1 : tri w1 (w.heap.size + 1) (.int .u64 0) (.int .i64 0) (.bool false) := tri.call (by refine ⟨?_, ?_, ?_, ?_, ?_, ?_, ?_⟩ <;> first | (go_simp; done) | (simp; done) | (simp; omega)) hb1
  obtain ⟨a0, a1, a2, a3, a4, a5, a6⟩ := A1
  have A1 : tri _ _ _ _ _ := ⟨a0, a1, a2, a3, a4, a5, a6⟩
  obtain ⟨c0, c1, c2, c3, c4, c5, c6⟩ := C1
  have C1 : tri _ _ _ _ _ := ⟨c0, c1, c2, c3, c4, c5, c6⟩
  go_wp2_with fail
  refine (rnext_yes k P b hP _).mono ?_
  rintro e w2 ⟨rfl, hb2⟩
  rw [U.out]
  clear hP U
  have A2 := tri.on hb2 A1
  have C2 := tri.on hb2 C1
  clear a0 a1 a2 a3 a4 a5 a6 c0 c1 c2 c3 c4 c5 c6 A1 C1
  obtain ⟨a0, a1, a2, a3, a4, a5, a6⟩ := A2
  have A2 : tri _ _ _ _ _ := ⟨a0, a1, a2, a3, a4, a5, a6⟩
  obtain ⟨c0, c1, c2, c3, c4, c5, c6⟩ := C2
  have C2 : tri _ _ _ _ _ := ⟨c0, c1, c2, c3, c4, c5, c6⟩
  have z1 := hb2.size
  go_wp2_with fail
  have D0 : tri (w2.alloc (.cells #[.int .u64 (k : Nat), .int .i64 ((P : Int) + 1), .bool b] 27)) w2.heap.size (.int .u64 (k : Nat)) (.int .i64 ((P : Int) + 1)) (.bool b) := tri.new
  go_region_with (go_at_call 30; refine (M.out _).mono ?_; rintro e w3 ⟨rfl, rfl⟩)
  all_goals
    go_wp2_with fail
    exact bodyPost_ret (v := .tuple #[.int .i64 (v : Int), .agg #[.int .u64 (k : Nat), .int .i64 ((P : Int) + 1), .bool b], .bool true]) (by simp [results, Try.results19, go_sem, *]) rfl ⟨rfl, by repeat (first | exact Below.refl _ _ | assumption | apply bl_alloc | apply bl_drewN | apply bl_drew | (refine bl_set ?_ (by first | (simp; done) | (simp; omega)) _) | (refine bl_call ?_ (by assumption)))⟩
end Go.Proofs.Ytjjigcgbdnadcaa
