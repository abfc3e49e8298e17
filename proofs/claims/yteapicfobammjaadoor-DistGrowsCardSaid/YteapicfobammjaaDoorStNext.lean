/-
  The contracts of Next, of the library and of the reference.
-/
import Derived.Test.YteapicfobammjaaDoorStSmall
namespace Go.Proofs.YteapicfobammjaaDoor.St
open Go.RowKit
set_option maxHeartbeats 1000000
def notN (u : Nat) : Nat := 18446744073709551615 - u
def below64 (u : Nat) : Prop := u < 18446744073709551616
theorem not_bits (u : Nat) (h : below64 u) : bits .xor .u64 (if IntKind.u64.signed = true then -1 else IntKind.u64.max) (u : Int) = ((notN u : Nat) : Int) := by
  have e2 : IntKind.u64.max = ((18446744073709551615 : Nat) : Int) := by decide
  unfold notN
  rw [if_neg (by decide), ← not_u64 u h, e2]; exact bits_xor_u64_nat 18446744073709551615 u (by decide) h
theorem next_end (k : Nat) (p : Int) (b : Bool) (h : hasS p = false) (w : World) : Calls Tryd.prog 79 #[.agg #[.int .u64 (k : Nat), .int .i64 p, .bool b]] w (Gives (.tuple #[.int .u64 0, .agg #[.int .u64 (k : Nat), .int .i64 p, .bool b]]) w) := by
  have E := Lib.hid h
  clear h
  go_enter Tryd.func79, Tryd.ntmps79
  go_wp2_with fail
  refine (has_any _ _ _ _).mono ?_
  rintro e w1 ⟨rfl, hb1⟩
  rw [E.out]
  have A1 : tri w1 (w.heap.size) (.int .u64 k) (.int .i64 p) (.bool b) := tri.call (by refine ⟨?_, ?_, ?_, ?_, ?_, ?_, ?_⟩ <;> first | (go_simp; done) | (simp; done) | (simp; omega)) hb1
  have C1 : tri w1 (w.heap.size + 1) (.int .u64 0) (.int .i64 0) (.bool false) := tri.call (by refine ⟨?_, ?_, ?_, ?_, ?_, ?_, ?_⟩ <;> first | (go_simp; done) | (simp; done) | (simp; omega)) hb1
  obtain ⟨a0, a1, a2, a3, a4, a5, a6⟩ := A1
  have A1 : tri _ _ _ _ _ := ⟨a0, a1, a2, a3, a4, a5, a6⟩
  obtain ⟨c0, c1, c2, c3, c4, c5, c6⟩ := C1
  have C1 : tri _ _ _ _ _ := ⟨c0, c1, c2, c3, c4, c5, c6⟩
  go_wp2_with fail
  go_region
  all_goals
    go_wp2_with fail
    exact bodyPost_ret (v := (.tuple #[.int .u64 0, .agg #[.int .u64 (k : Nat), .int .i64 p, .bool b]])) (by simp [results, Tryd.results79, go_sem, *]) rfl ⟨rfl, by repeat (first | exact Below.refl _ _ | assumption | apply bl_alloc | apply bl_drewN | apply bl_drew | (refine bl_set ?_ (by first | (simp; done) | (simp; omega)) _) | (refine bl_call ?_ (by assumption)))⟩
theorem rnext_end (k : Nat) (p : Int) (b : Bool) (h : hasS p = false) (w : World) : Calls Tryd.prog 81 #[.agg #[.int .u64 (k : Nat), .int .i64 p, .bool b]] w (Gives (.tuple #[.int .u64 0, .agg #[.int .u64 (k : Nat), .int .i64 p, .bool b]]) w) := by
  have E : Hid ((!hasS p) = true) := Lib.hid (by rw [h]; rfl)
  clear h
  go_enter Tryd.func81, Tryd.ntmps81
  go_wp2_with fail
  refine (ends_any _ _ _ _).mono ?_
  rintro e w1 ⟨rfl, hb1⟩
  rw [E.out]
  have A1 : tri w1 (w.heap.size) (.int .u64 k) (.int .i64 p) (.bool b) := tri.call (by refine ⟨?_, ?_, ?_, ?_, ?_, ?_, ?_⟩ <;> first | (go_simp; done) | (simp; done) | (simp; omega)) hb1
  have C1 : tri w1 (w.heap.size + 1) (.int .u64 0) (.int .i64 0) (.bool false) := tri.call (by refine ⟨?_, ?_, ?_, ?_, ?_, ?_, ?_⟩ <;> first | (go_simp; done) | (simp; done) | (simp; omega)) hb1
  obtain ⟨a0, a1, a2, a3, a4, a5, a6⟩ := A1
  have A1 : tri _ _ _ _ _ := ⟨a0, a1, a2, a3, a4, a5, a6⟩
  obtain ⟨c0, c1, c2, c3, c4, c5, c6⟩ := C1
  have C1 : tri _ _ _ _ _ := ⟨c0, c1, c2, c3, c4, c5, c6⟩
  go_wp2_with fail
  go_region
  all_goals
    go_wp2_with fail
    exact bodyPost_ret (v := (.tuple #[.int .u64 0, .agg #[.int .u64 (k : Nat), .int .i64 p, .bool b]])) (by simp [results, Tryd.results81, go_sem, *]) rfl ⟨rfl, by repeat (first | exact Below.refl _ _ | assumption | apply bl_alloc | apply bl_drewN | apply bl_drew | (refine bl_set ?_ (by first | (simp; done) | (simp; omega)) _) | (refine bl_call ?_ (by assumption)))⟩
theorem num_arg (k P : Nat) : IntKind.u64.wrap ((k : Int) + IntKind.u64.wrap (((P : Int) + 1) * 11400714819323198485)) = (((k + (P + 1) * 11400714819323198485 % 18446744073709551616) % 18446744073709551616 : Nat) : Int) := by
  rw [IntKind.wrap_u64, IntKind.wrap_u64, Int.natCast_emod, Int.natCast_add, Int.natCast_emod, Int.natCast_mul, Int.natCast_add]; rfl
set_option maxRecDepth 100000 in
theorem next_yes (k P : Nat) (b : Bool) (hP : P < 1000000000000) (w : World) : Calls Tryd.prog 79 #[.agg #[.int .u64 (k : Nat), .int .i64 (P : Nat), .bool b]] w (Gives (.tuple #[.int .u64 (nextU k P b : Nat), .agg #[.int .u64 (k : Nat), .int .i64 ((P : Int) + 1), .bool b]]) w) := by
  have E : Hid (hasS (P : Int) = true) := Lib.hid (by unfold hasS; exact decide_eq_true (by omega))
  have M := Lib.hid (mix_any ((k + (P + 1) * 11400714819323198485 % 18446744073709551616) % 18446744073709551616) (Nat.mod_lt _ (by decide)))
  have hq := num_arg k P
  unfold nextU turned numAt
  obtain ⟨X, eX⟩ : ∃ X, (k + (P + 1) * 11400714819323198485 % 18446744073709551616) % 18446744073709551616 = X := ⟨_, rfl⟩
  rw [eX] at M hq ⊢
  have HU : below64 (mixN X) := mixN_lt X
  obtain ⟨U, eU⟩ : ∃ U, mixN X = U := ⟨_, rfl⟩
  rw [eU] at M HU ⊢
  change Calls _ _ _ _ (Gives (.tuple #[.int .u64 ((if b then notN U else U : Nat) : Int), .agg #[.int .u64 (k : Nat), .int .i64 ((P : Int) + 1), .bool b]]) w)
  have hP' : (P : Int) < 1000000000000 := by omega
  clear eX eU hP
  cases b
  · rw [if_neg (by decide)]
    go_enter Tryd.func79, Tryd.ntmps79
    go_wp2_with fail
    refine (has_any _ _ _ _).mono ?_
    rintro e w1 ⟨rfl, hb1⟩
    rw [E.out]
    have A1 : tri w1 (w.heap.size) (.int .u64 k) (.int .i64 (P : Int)) (.bool false) := tri.call (by refine ⟨?_, ?_, ?_, ?_, ?_, ?_, ?_⟩ <;> first | (go_simp; done) | (simp; done) | (simp; omega)) hb1
    have C1 : tri w1 (w.heap.size + 1) (.int .u64 0) (.int .i64 0) (.bool false) := tri.call (by refine ⟨?_, ?_, ?_, ?_, ?_, ?_, ?_⟩ <;> first | (go_simp; done) | (simp; done) | (simp; omega)) hb1
    obtain ⟨a0, a1, a2, a3, a4, a5, a6⟩ := A1
    have A1 : tri _ _ _ _ _ := ⟨a0, a1, a2, a3, a4, a5, a6⟩
    obtain ⟨c0, c1, c2, c3, c4, c5, c6⟩ := C1
    have C1 : tri _ _ _ _ _ := ⟨c0, c1, c2, c3, c4, c5, c6⟩
    go_wp2_with fail
    refine (M.out _).mono ?_
    rintro e w2 ⟨rfl, rfl⟩
    clear E M hq A1 C1
    skip
    go_wp2_with fail
    go_region
    all_goals
      go_wp2_with fail
      exact bodyPost_ret (v := .tuple #[.int .u64 (U : Nat), .agg #[.int .u64 (k : Nat), .int .i64 ((P : Int) + 1), .bool false]]) (by simp [results, Tryd.results79, go_sem, *]) rfl ⟨rfl, by repeat (first | exact Below.refl _ _ | assumption | apply bl_alloc | apply bl_drewN | apply bl_drew | (refine bl_set ?_ (by first | (simp; done) | (simp; omega)) _) | (refine bl_call ?_ (by assumption)))⟩
  · rw [if_pos rfl]
    go_enter Tryd.func79, Tryd.ntmps79
    go_wp2_with fail
    refine (has_any _ _ _ _).mono ?_
    rintro e w1 ⟨rfl, hb1⟩
    rw [E.out]
    have A1 : tri w1 (w.heap.size) (.int .u64 k) (.int .i64 (P : Int)) (.bool true) := tri.call (by refine ⟨?_, ?_, ?_, ?_, ?_, ?_, ?_⟩ <;> first | (go_simp; done) | (simp; done) | (simp; omega)) hb1
    have C1 : tri w1 (w.heap.size + 1) (.int .u64 0) (.int .i64 0) (.bool false) := tri.call (by refine ⟨?_, ?_, ?_, ?_, ?_, ?_, ?_⟩ <;> first | (go_simp; done) | (simp; done) | (simp; omega)) hb1
    obtain ⟨a0, a1, a2, a3, a4, a5, a6⟩ := A1
    have A1 : tri _ _ _ _ _ := ⟨a0, a1, a2, a3, a4, a5, a6⟩
    obtain ⟨c0, c1, c2, c3, c4, c5, c6⟩ := C1
    have C1 : tri _ _ _ _ _ := ⟨c0, c1, c2, c3, c4, c5, c6⟩
    go_wp2_with fail
    refine (M.out _).mono ?_
    rintro e w2 ⟨rfl, rfl⟩
    clear E M hq A1 C1
    (go_upto_region 6 with fail; go_step; go_step; go_step; go_step; first | (rw [not_bits U HU]) | (go_step; rw [not_bits U HU]) | (go_step; go_step; rw [not_bits U HU]))
    go_wp2_with fail
    go_region
    all_goals
      go_wp2_with fail
      exact bodyPost_ret (v := .tuple #[.int .u64 (notN U : Nat), .agg #[.int .u64 (k : Nat), .int .i64 ((P : Int) + 1), .bool true]]) (by simp [results, Tryd.results79, go_sem, *]) rfl ⟨rfl, by repeat (first | exact Below.refl _ _ | assumption | apply bl_alloc | apply bl_drewN | apply bl_drew | (refine bl_set ?_ (by first | (simp; done) | (simp; omega)) _) | (refine bl_call ?_ (by assumption)))⟩
set_option maxRecDepth 100000 in
theorem rnext_yes (k P : Nat) (b : Bool) (hP : P < 1000000000000) (w : World) : Calls Tryd.prog 81 #[.agg #[.int .u64 (k : Nat), .int .i64 (P : Nat), .bool b]] w (Gives (.tuple #[.int .u64 (nextU k P b : Nat), .agg #[.int .u64 (k : Nat), .int .i64 ((P : Int) + 1), .bool b]]) w) := by
  have E : Hid ((!hasS (P : Int)) = false) := Lib.hid (by unfold hasS; rw [decide_eq_true (by omega)]; rfl)
  have M := Lib.hid (rmix_any ((k + (P + 1) * 11400714819323198485 % 18446744073709551616) % 18446744073709551616) (Nat.mod_lt _ (by decide)))
  have hq := num_arg k P
  unfold nextU turned numAt
  obtain ⟨X, eX⟩ : ∃ X, (k + (P + 1) * 11400714819323198485 % 18446744073709551616) % 18446744073709551616 = X := ⟨_, rfl⟩
  rw [eX] at M hq ⊢
  have HU : below64 (mixN X) := mixN_lt X
  obtain ⟨U, eU⟩ : ∃ U, mixN X = U := ⟨_, rfl⟩
  rw [eU] at M HU ⊢
  change Calls _ _ _ _ (Gives (.tuple #[.int .u64 ((if b then notN U else U : Nat) : Int), .agg #[.int .u64 (k : Nat), .int .i64 ((P : Int) + 1), .bool b]]) w)
  have hP' : (P : Int) < 1000000000000 := by omega
  clear eX eU hP
  cases b
  · rw [if_neg (by decide)]
    go_enter Tryd.func81, Tryd.ntmps81
    go_wp2_with fail
    refine (ends_any _ _ _ _).mono ?_
    rintro e w1 ⟨rfl, hb1⟩
    rw [E.out]
    have A1 : tri w1 (w.heap.size) (.int .u64 k) (.int .i64 (P : Int)) (.bool false) := tri.call (by refine ⟨?_, ?_, ?_, ?_, ?_, ?_, ?_⟩ <;> first | (go_simp; done) | (simp; done) | (simp; omega)) hb1
    have C1 : tri w1 (w.heap.size + 1) (.int .u64 0) (.int .i64 0) (.bool false) := tri.call (by refine ⟨?_, ?_, ?_, ?_, ?_, ?_, ?_⟩ <;> first | (go_simp; done) | (simp; done) | (simp; omega)) hb1
    obtain ⟨a0, a1, a2, a3, a4, a5, a6⟩ := A1
    have A1 : tri _ _ _ _ _ := ⟨a0, a1, a2, a3, a4, a5, a6⟩
    obtain ⟨c0, c1, c2, c3, c4, c5, c6⟩ := C1
    have C1 : tri _ _ _ _ _ := ⟨c0, c1, c2, c3, c4, c5, c6⟩
    go_wp2_with fail
    refine (M.out _).mono ?_
    rintro e w2 ⟨rfl, rfl⟩
    clear E M hq A1 C1
    skip
    go_wp2_with fail
    go_region
    all_goals
      go_wp2_with fail
      exact bodyPost_ret (v := .tuple #[.int .u64 (U : Nat), .agg #[.int .u64 (k : Nat), .int .i64 ((P : Int) + 1), .bool false]]) (by simp [results, Tryd.results81, go_sem, *]) rfl ⟨rfl, by repeat (first | exact Below.refl _ _ | assumption | apply bl_alloc | apply bl_drewN | apply bl_drew | (refine bl_set ?_ (by first | (simp; done) | (simp; omega)) _) | (refine bl_call ?_ (by assumption)))⟩
  · rw [if_pos rfl]
    go_enter Tryd.func81, Tryd.ntmps81
    go_wp2_with fail
    refine (ends_any _ _ _ _).mono ?_
    rintro e w1 ⟨rfl, hb1⟩
    rw [E.out]
    have A1 : tri w1 (w.heap.size) (.int .u64 k) (.int .i64 (P : Int)) (.bool true) := tri.call (by refine ⟨?_, ?_, ?_, ?_, ?_, ?_, ?_⟩ <;> first | (go_simp; done) | (simp; done) | (simp; omega)) hb1
    have C1 : tri w1 (w.heap.size + 1) (.int .u64 0) (.int .i64 0) (.bool false) := tri.call (by refine ⟨?_, ?_, ?_, ?_, ?_, ?_, ?_⟩ <;> first | (go_simp; done) | (simp; done) | (simp; omega)) hb1
    obtain ⟨a0, a1, a2, a3, a4, a5, a6⟩ := A1
    have A1 : tri _ _ _ _ _ := ⟨a0, a1, a2, a3, a4, a5, a6⟩
    obtain ⟨c0, c1, c2, c3, c4, c5, c6⟩ := C1
    have C1 : tri _ _ _ _ _ := ⟨c0, c1, c2, c3, c4, c5, c6⟩
    go_wp2_with fail
    refine (M.out _).mono ?_
    rintro e w2 ⟨rfl, rfl⟩
    clear E M hq A1 C1
    (go_upto_region 6 with fail; go_step; go_step; go_step; go_step; first | (rw [not_bits U HU]) | (go_step; rw [not_bits U HU]) | (go_step; go_step; rw [not_bits U HU]))
    go_wp2_with fail
    go_region
    all_goals
      go_wp2_with fail
      exact bodyPost_ret (v := .tuple #[.int .u64 (notN U : Nat), .agg #[.int .u64 (k : Nat), .int .i64 ((P : Int) + 1), .bool true]]) (by simp [results, Tryd.results81, go_sem, *]) rfl ⟨rfl, by repeat (first | exact Below.refl _ _ | assumption | apply bl_alloc | apply bl_drewN | apply bl_drew | (refine bl_set ?_ (by first | (simp; done) | (simp; omega)) _) | (refine bl_call ?_ (by assumption)))⟩
end Go.Proofs.YteapicfobammjaaDoor.St
