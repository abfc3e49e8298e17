/-
  The contracts of Split, of the library and of the reference.
-/
import Derived.Test.YtjjigcgbdnadcaaSkip
namespace Go.Proofs.Ytjjigcgbdnadcaa
open Go.RowKit
set_option maxHeartbeats 400000
def splK (k : Nat) (p : Int) (i : Int) : Nat := if okS p then splitK k i else k
def splP (p : Int) : Int := if okS p then 0 else p
theorem arg_i (i : Int) : IntKind.u64.wrap (IntKind.u64.wrap i + 11400714819323198485) = ((addG (bitsOf i) : Nat) : Int) := by
  unfold addG
  rw [IntKind.wrap_u64, IntKind.wrap_u64, Int.natCast_emod, Int.natCast_add, bitsOf_cast]; rfl
theorem xor_arg (k : Nat) (hk : k < 18446744073709551616) (x : Nat) : bits .xor .u64 (k : Int) ((mixN x : Nat) : Int) = ((k ^^^ mixN x : Nat) : Int) := bits_xor_u64_nat k (mixN x) hk (mixN_lt _)
theorem mix_split (k : Nat) (hk : k < 18446744073709551616) (i : Int) (w : World) : Calls Try.prog 10 #[.int .u64 ((k ^^^ mixN (addG (bitsOf i)) : Nat) : Int)] w fun e w' => e = .returned (.int .u64 (splitK k i : Nat)) ∧ w = w' := by
  unfold splitK
  exact mix_any (k ^^^ mixN (addG (bitsOf i))) (Nat.xor_lt_two_pow (n := 64) hk (mixN_lt _)) w
theorem rmix_split (k : Nat) (hk : k < 18446744073709551616) (i : Int) (w : World) : Calls Try.prog 11 #[.int .u64 ((k ^^^ mixN (addG (bitsOf i)) : Nat) : Int)] w fun e w' => e = .returned (.int .u64 (splitK k i : Nat)) ∧ w = w' := by
  unfold splitK
  exact rmix_any (k ^^^ mixN (addG (bitsOf i))) (Nat.xor_lt_two_pow (n := 64) hk (mixN_lt _)) w
theorem split_yes (k : Nat) (p : Int) (b : Bool) (i : Int) (x y z s : Nat) (E : Hid (okS p = true)) (h1 : IntKind.u64.wrap (IntKind.u64.wrap i + 11400714819323198485) = (x : Int)) (h2 : bits .xor .u64 (k : Int) (y : Int) = (z : Int))
    (M1 : Hid (∀ w, Calls Try.prog 10 #[.int .u64 (x : Int)] w fun e w' => e = .returned (.int .u64 (y : Int)) ∧ w = w')) (M2 : Hid (∀ w, Calls Try.prog 10 #[.int .u64 (z : Int)] w fun e w' => e = .returned (.int .u64 (s : Int)) ∧ w = w'))
    (w : World) : Calls Try.prog 23 #[.agg #[.int .u64 (k : Nat), .int .i64 p, .bool b], .int .i64 i] w (Gives (.agg #[.int .u64 (s : Int), .int .i64 0, .bool b]) w) := by
  go_enter Try.func23, Try.ntmps23
  go_wp2_with fail
  refine (valid_any _ _ _ _).mono ?_
  rintro e w1 ⟨rfl, hb1⟩
  rw [E.out]
  have A1 : tri w1 (w.heap.size) (.int .u64 k) (.int .i64 p) (.bool b) := tri.call (by refine ⟨?_, ?_, ?_, ?_, ?_, ?_, ?_⟩ <;> first | (go_simp; done) | (simp; done) | (simp; omega)) hb1
  have C1 : tri w1 (w.heap.size + 1) (.int .u64 0) (.int .i64 0) (.bool false) := tri.call (by refine ⟨?_, ?_, ?_, ?_, ?_, ?_, ?_⟩ <;> first | (go_simp; done) | (simp; done) | (simp; omega)) hb1
  obtain ⟨a0, a1, a2, a3, a4, a5, a6⟩ := A1
  have A1 : tri _ _ _ _ _ := ⟨a0, a1, a2, a3, a4, a5, a6⟩
  obtain ⟨c0, c1, c2, c3, c4, c5, c6⟩ := C1
  have C1 : tri _ _ _ _ _ := ⟨c0, c1, c2, c3, c4, c5, c6⟩
  go_wp2_with fail
  go_region_held3 (fun w' => w'.cell? ⟨w.heap.size, 0, none⟩ = some (.int .u64 k) ∧ w'.cell? ⟨w.heap.size, 2, none⟩ = some (.bool b)) (first | (go_keep; done) | exact ⟨a0, a2⟩)
    (first
      | (go_at_call_of 10 (Value.int .u64 (x : Int)); refine (M1.out _).mono ?_; rintro e w2 ⟨rfl, rfl⟩)
      | (go_at_call_of 10 (Value.int .u64 (z : Int)); refine (M2.out _).mono ?_; rintro e w2 ⟨rfl, rfl⟩))
  all_goals
    go_wp2_with fail
    exact bodyPost_ret (v := .agg #[.int .u64 (s : Nat), .int .i64 (0), .bool (b)]) (by simp [results, Try.results23, go_sem, *]) rfl ⟨rfl, by repeat (first | exact Below.refl _ _ | assumption | apply bl_alloc | apply bl_drewN | apply bl_drew | (refine bl_set ?_ (by first | (simp; done) | (simp; omega)) _) | (refine bl_call ?_ (by assumption)))⟩
theorem rsplit_yes (k : Nat) (p : Int) (b : Bool) (i : Int) (x y z s : Nat) (E : Hid (errS p = 0)) (h1 : IntKind.u64.wrap (IntKind.u64.wrap i + 11400714819323198485) = (x : Int)) (h2 : bits .xor .u64 (k : Int) (y : Int) = (z : Int))
    (M1 : Hid (∀ w, Calls Try.prog 11 #[.int .u64 (x : Int)] w fun e w' => e = .returned (.int .u64 (y : Int)) ∧ w = w')) (M2 : Hid (∀ w, Calls Try.prog 11 #[.int .u64 (z : Int)] w fun e w' => e = .returned (.int .u64 (s : Int)) ∧ w = w'))
    (w : World) : Calls Try.prog 24 #[.agg #[.int .u64 (k : Nat), .int .i64 p, .bool b], .int .i64 i] w (Gives (.agg #[.int .u64 (s : Int), .int .i64 0, .bool b]) w) := by
  go_enter Try.func24, Try.ntmps24
  go_wp2_with fail
  refine (rcheck_any _ _ _ _).mono ?_
  rintro e w1 ⟨rfl, hb1⟩
  rw [E.out]
  have A1 : tri w1 (w.heap.size) (.int .u64 k) (.int .i64 p) (.bool b) := tri.call (by refine ⟨?_, ?_, ?_, ?_, ?_, ?_, ?_⟩ <;> first | (go_simp; done) | (simp; done) | (simp; omega)) hb1
  have C1 : tri w1 (w.heap.size + 1) (.int .u64 0) (.int .i64 0) (.bool false) := tri.call (by refine ⟨?_, ?_, ?_, ?_, ?_, ?_, ?_⟩ <;> first | (go_simp; done) | (simp; done) | (simp; omega)) hb1
  obtain ⟨a0, a1, a2, a3, a4, a5, a6⟩ := A1
  have A1 : tri _ _ _ _ _ := ⟨a0, a1, a2, a3, a4, a5, a6⟩
  obtain ⟨c0, c1, c2, c3, c4, c5, c6⟩ := C1
  have C1 : tri _ _ _ _ _ := ⟨c0, c1, c2, c3, c4, c5, c6⟩
  go_wp2_with fail
  go_region_held3 (fun w' => w'.cell? ⟨w.heap.size, 0, none⟩ = some (.int .u64 k) ∧ w'.cell? ⟨w.heap.size, 2, none⟩ = some (.bool b)) (first | (go_keep; done) | exact ⟨a0, a2⟩)
    (first
      | (go_at_call_of 11 (Value.int .u64 (x : Int)); refine (M1.out _).mono ?_; rintro e w2 ⟨rfl, rfl⟩)
      | (go_at_call_of 11 (Value.int .u64 (z : Int)); refine (M2.out _).mono ?_; rintro e w2 ⟨rfl, rfl⟩))
  all_goals
    go_wp2_with fail
    exact bodyPost_ret (v := .agg #[.int .u64 (s : Nat), .int .i64 (0), .bool (b)]) (by simp [results, Try.results24, go_sem, *]) rfl ⟨rfl, by repeat (first | exact Below.refl _ _ | assumption | apply bl_alloc | apply bl_drewN | apply bl_drew | (refine bl_set ?_ (by first | (simp; done) | (simp; omega)) _) | (refine bl_call ?_ (by assumption)))⟩
theorem splK_no {k : Nat} {p i : Int} (h : okS p = false) : splK k p i = k := by unfold splK; rw [if_neg (by rw [h]; decide)]
theorem splK_yes {k : Nat} {p i : Int} (h : okS p = true) : splK k p i = splitK k i := by unfold splK; rw [if_pos h]
theorem splP_no {p : Int} (h : okS p = false) : splP p = p := by unfold splP; rw [if_neg (by rw [h]; decide)]
theorem splP_yes {p : Int} (h : okS p = true) : splP p = 0 := by unfold splP; rw [if_pos h]
theorem split_any (k : Nat) (hk : k < 18446744073709551616) (p : Int) (b : Bool) (i : Int) (w : World) : Calls Try.prog 23 #[.agg #[.int .u64 (k : Nat), .int .i64 p, .bool b], .int .i64 i] w (Gives (.agg #[.int .u64 (splK k p i : Nat), .int .i64 (splP p), .bool b]) w) := by
  cases h : okS p
  · rw [splK_no h, splP_no h]
    have E := Lib.hid h
    clear h hk
    go_enter Try.func23, Try.ntmps23
    go_wp2_with fail
    refine (valid_any _ _ _ _).mono ?_
    rintro e w1 ⟨rfl, hb1⟩
    rw [E.out]
    have A1 : tri w1 (w.heap.size) (.int .u64 k) (.int .i64 p) (.bool b) := tri.call (by refine ⟨?_, ?_, ?_, ?_, ?_, ?_, ?_⟩ <;> first | (go_simp; done) | (simp; done) | (simp; omega)) hb1
    have C1 : tri w1 (w.heap.size + 1) (.int .u64 0) (.int .i64 0) (.bool false) := tri.call (by refine ⟨?_, ?_, ?_, ?_, ?_, ?_, ?_⟩ <;> first | (go_simp; done) | (simp; done) | (simp; omega)) hb1
    obtain ⟨a0, a1, a2, a3, a4, a5, a6⟩ := A1
    have A1 : tri _ _ _ _ _ := ⟨a0, a1, a2, a3, a4, a5, a6⟩
    obtain ⟨c0, c1, c2, c3, c4, c5, c6⟩ := C1
    have C1 : tri _ _ _ _ _ := ⟨c0, c1, c2, c3, c4, c5, c6⟩
    go_wp2_with fail
    exact bodyPost_ret (v := .agg #[.int .u64 (k : Nat), .int .i64 (p), .bool (b)]) (by simp [results, Try.results23, go_sem, *]) rfl ⟨rfl, by repeat (first | exact Below.refl _ _ | assumption | apply bl_alloc | apply bl_drewN | apply bl_drew | (refine bl_set ?_ (by first | (simp; done) | (simp; omega)) _) | (refine bl_call ?_ (by assumption)))⟩
  · rw [splK_yes h, splP_yes h]
    exact split_yes k p b i _ _ _ _ (Lib.hid h) (arg_i i) (xor_arg k hk _) (Lib.hid (mix_any _ (addG_lt _))) (Lib.hid (mix_split k hk i)) w
theorem rsplit_any (k : Nat) (hk : k < 18446744073709551616) (p : Int) (b : Bool) (i : Int) (w : World) : Calls Try.prog 24 #[.agg #[.int .u64 (k : Nat), .int .i64 p, .bool b], .int .i64 i] w (Gives (.agg #[.int .u64 (splK k p i : Nat), .int .i64 (splP p), .bool b]) w) := by
  cases h : okS p
  · rw [splK_no h, splP_no h]
    have E := Lib.hid (errS_no h)
    clear h hk
    go_enter Try.func24, Try.ntmps24
    go_wp2_with fail
    refine (rcheck_any _ _ _ _).mono ?_
    rintro e w1 ⟨rfl, hb1⟩
    rw [E.out]
    have A1 : tri w1 (w.heap.size) (.int .u64 k) (.int .i64 p) (.bool b) := tri.call (by refine ⟨?_, ?_, ?_, ?_, ?_, ?_, ?_⟩ <;> first | (go_simp; done) | (simp; done) | (simp; omega)) hb1
    have C1 : tri w1 (w.heap.size + 1) (.int .u64 0) (.int .i64 0) (.bool false) := tri.call (by refine ⟨?_, ?_, ?_, ?_, ?_, ?_, ?_⟩ <;> first | (go_simp; done) | (simp; done) | (simp; omega)) hb1
    obtain ⟨a0, a1, a2, a3, a4, a5, a6⟩ := A1
    have A1 : tri _ _ _ _ _ := ⟨a0, a1, a2, a3, a4, a5, a6⟩
    obtain ⟨c0, c1, c2, c3, c4, c5, c6⟩ := C1
    have C1 : tri _ _ _ _ _ := ⟨c0, c1, c2, c3, c4, c5, c6⟩
    go_wp2_with fail
    exact bodyPost_ret (v := .agg #[.int .u64 (k : Nat), .int .i64 (p), .bool (b)]) (by simp [results, Try.results24, go_sem, *]) rfl ⟨rfl, by repeat (first | exact Below.refl _ _ | assumption | apply bl_alloc | apply bl_drewN | apply bl_drew | (refine bl_set ?_ (by first | (simp; done) | (simp; omega)) _) | (refine bl_call ?_ (by assumption)))⟩
  · rw [splK_yes h, splP_yes h]
    exact rsplit_yes k p b i _ _ _ _ (Lib.hid (errS_yes h)) (arg_i i) (xor_arg k hk _) (Lib.hid (rmix_any _ (addG_lt _))) (Lib.hid (rmix_split k hk i)) w
end Go.Proofs.Ytjjigcgbdnadcaa
