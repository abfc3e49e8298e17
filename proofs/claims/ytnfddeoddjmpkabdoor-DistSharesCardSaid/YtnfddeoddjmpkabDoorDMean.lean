/-
  The contract of package dist's Mean.
-/
import Derived.Test.YtnfddeoddjmpkabDoorDAcc
import Derived.Test.YtnfddeoddjmpkabDoorFrac
namespace Go.Proofs.YtnfddeoddjmpkabDoor.Di
open Go.RowKit
set_option maxHeartbeats 4000000
theorem mean_no (op a b n : Int) (p : Option Addr) (lv c : Nat) (q : Option Addr) (lw f : Nat) (E : Int) (hE : (E != 0) = true) (w : World) (CH : Hid (∀ w2, Below w.heap.size w w2 → Calls Tryd.prog 10 #[.agg #[.int .i64 op, .int .i64 a, .int .i64 b, .int .i64 n, .slice p lv c, .slice q lw f]] w2 (Gives (.int .i64 E) w2))) : Calls Tryd.prog 34 #[.agg #[.int .i64 op, .int .i64 a, .int .i64 b, .int .i64 n, .slice p lv c, .slice q lw f]] w (Gives (.tuple #[.agg #[.int .i64 0, .int .i64 0], .bool false]) w) := by
  go_enter Tryd.func34, Tryd.ntmps34
  go_wp2_with fail
  refine (CH.out _ (by (repeat (first | (with_reducible exact Below.refl _ _) | (with_reducible assumption) | (with_reducible apply bl_alloc) | (with_reducible apply bl_drewN) | (with_reducible apply bl_drew) | (with_reducible refine bl_set ?_ (by first | (simp; done) | (simp; omega)) _) | (with_reducible refine bl_call ?_ (by assumption)))))).mono ?_
  rintro e w1 ⟨rfl, hb1⟩
  have D1 := six.on hb1 (six.alloc (o := .cells #[.int .i64 0, .int .i64 0] 24) (six.new (w := w) (t := 33)))
  have T1 : two w1 (w.heap.size + 1) (.int .i64 0) (.int .i64 0) := two.call (by refine ⟨?_, ?_, ?_, ?_, ?_⟩ <;> first | (go_simp; done) | (simp; done) | (simp; omega)) hb1
  obtain ⟨t0, t1, t2, t3, t4⟩ := T1
  have T1 : two _ _ _ _ := ⟨t0, t1, t2, t3, t4⟩
  obtain ⟨d0, d1, d2, d3, d4, d5, d6⟩ := D1
  have D1 : six _ _ _ _ _ _ _ _ := ⟨d0, d1, d2, d3, d4, d5, d6⟩
  go_wp2_with fail
  exact bodyPost_ret (v := .tuple #[.agg #[.int .i64 0, .int .i64 0], .bool false]) (by simp [results, Tryd.results34, go_sem, *]) rfl ⟨rfl, by (repeat (first | (with_reducible exact Below.refl _ _) | (with_reducible assumption) | (with_reducible apply bl_alloc) | (with_reducible apply bl_drewN) | (with_reducible apply bl_drew) | (with_reducible refine bl_set ?_ (by first | (simp; done) | (simp; omega)) _) | (with_reducible refine bl_call ?_ (by assumption))))⟩
theorem mean1 (a b n : Int) (p : Option Addr) (lv c : Nat) (q : Option Addr) (lw f : Nat) (x y : Int) (z : Bool) (w : World) (CH : Hid (∀ w2, Below w.heap.size w w2 → Calls Tryd.prog 10 #[.agg #[.int .i64 1, .int .i64 a, .int .i64 b, .int .i64 n, .slice p lv c, .slice q lw f]] w2 (Gives (.int .i64 0) w2))) (O : Hid (∀ w2, Calls Tryd.prog 13 #[.int .i64 a, .int .i64 1] w2 (Gives (.tuple #[.agg #[.int .i64 x, .int .i64 y], .bool z]) w2))) : Calls Tryd.prog 34 #[.agg #[.int .i64 1, .int .i64 a, .int .i64 b, .int .i64 n, .slice p lv c, .slice q lw f]] w (Gives (.tuple #[.agg #[.int .i64 x, .int .i64 y], .bool z]) w) := by
  go_enter Tryd.func34, Tryd.ntmps34
  go_wp2_with fail
  refine (CH.out _ (by (repeat (first | (with_reducible exact Below.refl _ _) | (with_reducible assumption) | (with_reducible apply bl_alloc) | (with_reducible apply bl_drewN) | (with_reducible apply bl_drew) | (with_reducible refine bl_set ?_ (by first | (simp; done) | (simp; omega)) _) | (with_reducible refine bl_call ?_ (by assumption)))))).mono ?_
  rintro e w1 ⟨rfl, hb1⟩
  have D1 := six.on hb1 (six.alloc (o := .cells #[.int .i64 0, .int .i64 0] 24) (six.new (w := w) (t := 33)))
  have T1 : two w1 (w.heap.size + 1) (.int .i64 0) (.int .i64 0) := two.call (by refine ⟨?_, ?_, ?_, ?_, ?_⟩ <;> first | (go_simp; done) | (simp; done) | (simp; omega)) hb1
  obtain ⟨t0, t1, t2, t3, t4⟩ := T1
  have T1 : two _ _ _ _ := ⟨t0, t1, t2, t3, t4⟩
  obtain ⟨d0, d1, d2, d3, d4, d5, d6⟩ := D1
  have D1 : six _ _ _ _ _ _ _ _ := ⟨d0, d1, d2, d3, d4, d5, d6⟩
  go_wp2_with fail
  refine (O.out _).mono ?_
  rintro e w2 ⟨rfl, hb2⟩
  have T2 := two.on hb2 T1
  clear t0 t1 t2 t3 t4
  obtain ⟨t0, t1, t2, t3, t4⟩ := T2
  go_wp2_with fail
  exact bodyPost_ret (v := .tuple #[.agg #[.int .i64 x, .int .i64 y], .bool z]) (by simp [results, Tryd.results34, go_sem, *]) rfl ⟨rfl, by (repeat (first | (with_reducible exact Below.refl _ _) | (with_reducible assumption) | (with_reducible apply bl_alloc) | (with_reducible apply bl_drewN) | (with_reducible apply bl_drew) | (with_reducible refine bl_set ?_ (by first | (simp; done) | (simp; omega)) _) | (with_reducible refine bl_call ?_ (by assumption))))⟩
theorem mean2 (a b n : Int) (p : Option Addr) (lv c : Nat) (q : Option Addr) (lw f : Nat) (x y s : Int) (z : Bool) (ws : IntKind.i64.wrap (a + b) = s) (w : World) (CH : Hid (∀ w2, Below w.heap.size w w2 → Calls Tryd.prog 10 #[.agg #[.int .i64 2, .int .i64 a, .int .i64 b, .int .i64 n, .slice p lv c, .slice q lw f]] w2 (Gives (.int .i64 0) w2))) (O : Hid (∀ w2, Calls Tryd.prog 13 #[.int .i64 s, .int .i64 2] w2 (Gives (.tuple #[.agg #[.int .i64 x, .int .i64 y], .bool z]) w2))) : Calls Tryd.prog 34 #[.agg #[.int .i64 2, .int .i64 a, .int .i64 b, .int .i64 n, .slice p lv c, .slice q lw f]] w (Gives (.tuple #[.agg #[.int .i64 x, .int .i64 y], .bool z]) w) := by
  go_enter Tryd.func34, Tryd.ntmps34
  go_wp2_with fail
  refine (CH.out _ (by (repeat (first | (with_reducible exact Below.refl _ _) | (with_reducible assumption) | (with_reducible apply bl_alloc) | (with_reducible apply bl_drewN) | (with_reducible apply bl_drew) | (with_reducible refine bl_set ?_ (by first | (simp; done) | (simp; omega)) _) | (with_reducible refine bl_call ?_ (by assumption)))))).mono ?_
  rintro e w1 ⟨rfl, hb1⟩
  have D1 := six.on hb1 (six.alloc (o := .cells #[.int .i64 0, .int .i64 0] 24) (six.new (w := w) (t := 33)))
  have T1 : two w1 (w.heap.size + 1) (.int .i64 0) (.int .i64 0) := two.call (by refine ⟨?_, ?_, ?_, ?_, ?_⟩ <;> first | (go_simp; done) | (simp; done) | (simp; omega)) hb1
  obtain ⟨t0, t1, t2, t3, t4⟩ := T1
  have T1 : two _ _ _ _ := ⟨t0, t1, t2, t3, t4⟩
  obtain ⟨d0, d1, d2, d3, d4, d5, d6⟩ := D1
  have D1 : six _ _ _ _ _ _ _ _ := ⟨d0, d1, d2, d3, d4, d5, d6⟩
  go_wp2_with fail
  refine (O.out _).mono ?_
  rintro e w2 ⟨rfl, hb2⟩
  have T2 := two.on hb2 T1
  clear t0 t1 t2 t3 t4
  obtain ⟨t0, t1, t2, t3, t4⟩ := T2
  go_wp2_with fail
  exact bodyPost_ret (v := .tuple #[.agg #[.int .i64 x, .int .i64 y], .bool z]) (by simp [results, Tryd.results34, go_sem, *]) rfl ⟨rfl, by (repeat (first | (with_reducible exact Below.refl _ _) | (with_reducible assumption) | (with_reducible apply bl_alloc) | (with_reducible apply bl_drewN) | (with_reducible apply bl_drew) | (with_reducible refine bl_set ?_ (by first | (simp; done) | (simp; omega)) _) | (with_reducible refine bl_call ?_ (by assumption))))⟩
theorem mean4 (a b n : Int) (p : Option Addr) (lv c : Nat) (q : Option Addr) (lw f : Nat) (x y s t : Int) (z : Bool) (ws : IntKind.i64.wrap (a + b) = s) (wt : IntKind.i64.wrap (n * s) = t) (w : World) (CH : Hid (∀ w2, Below w.heap.size w w2 → Calls Tryd.prog 10 #[.agg #[.int .i64 4, .int .i64 a, .int .i64 b, .int .i64 n, .slice p lv c, .slice q lw f]] w2 (Gives (.int .i64 0) w2))) (O : Hid (∀ w2, Calls Tryd.prog 13 #[.int .i64 t, .int .i64 2] w2 (Gives (.tuple #[.agg #[.int .i64 x, .int .i64 y], .bool z]) w2))) : Calls Tryd.prog 34 #[.agg #[.int .i64 4, .int .i64 a, .int .i64 b, .int .i64 n, .slice p lv c, .slice q lw f]] w (Gives (.tuple #[.agg #[.int .i64 x, .int .i64 y], .bool z]) w) := by
  go_enter Tryd.func34, Tryd.ntmps34
  go_wp2_with fail
  refine (CH.out _ (by (repeat (first | (with_reducible exact Below.refl _ _) | (with_reducible assumption) | (with_reducible apply bl_alloc) | (with_reducible apply bl_drewN) | (with_reducible apply bl_drew) | (with_reducible refine bl_set ?_ (by first | (simp; done) | (simp; omega)) _) | (with_reducible refine bl_call ?_ (by assumption)))))).mono ?_
  rintro e w1 ⟨rfl, hb1⟩
  have D1 := six.on hb1 (six.alloc (o := .cells #[.int .i64 0, .int .i64 0] 24) (six.new (w := w) (t := 33)))
  have T1 : two w1 (w.heap.size + 1) (.int .i64 0) (.int .i64 0) := two.call (by refine ⟨?_, ?_, ?_, ?_, ?_⟩ <;> first | (go_simp; done) | (simp; done) | (simp; omega)) hb1
  obtain ⟨t0, t1, t2, t3, t4⟩ := T1
  have T1 : two _ _ _ _ := ⟨t0, t1, t2, t3, t4⟩
  obtain ⟨d0, d1, d2, d3, d4, d5, d6⟩ := D1
  have D1 : six _ _ _ _ _ _ _ _ := ⟨d0, d1, d2, d3, d4, d5, d6⟩
  go_wp2_with fail
  refine (O.out _).mono ?_
  rintro e w2 ⟨rfl, hb2⟩
  have T2 := two.on hb2 T1
  clear t0 t1 t2 t3 t4
  obtain ⟨t0, t1, t2, t3, t4⟩ := T2
  go_wp2_with fail
  exact bodyPost_ret (v := .tuple #[.agg #[.int .i64 x, .int .i64 y], .bool z]) (by simp [results, Tryd.results34, go_sem, *]) rfl ⟨rfl, by (repeat (first | (with_reducible exact Below.refl _ _) | (with_reducible assumption) | (with_reducible apply bl_alloc) | (with_reducible apply bl_drewN) | (with_reducible apply bl_drew) | (with_reducible refine bl_set ?_ (by first | (simp; done) | (simp; omega)) _) | (with_reducible refine bl_call ?_ (by assumption))))⟩
theorem mean5y (a b n : Int) (p : Option Addr) (lv c : Nat) (q : Option Addr) (lw f : Nat) (x y : Int) (z : Bool) (h : (a == 1) = true ∨ ((a == 1) = false ∧ (b == 1) = true)) (w : World) (CH : Hid (∀ w2, Below w.heap.size w w2 → Calls Tryd.prog 10 #[.agg #[.int .i64 5, .int .i64 a, .int .i64 b, .int .i64 n, .slice p lv c, .slice q lw f]] w2 (Gives (.int .i64 0) w2))) (O : Hid (∀ w2, Calls Tryd.prog 13 #[.int .i64 1, .int .i64 1] w2 (Gives (.tuple #[.agg #[.int .i64 x, .int .i64 y], .bool z]) w2))) : Calls Tryd.prog 34 #[.agg #[.int .i64 5, .int .i64 a, .int .i64 b, .int .i64 n, .slice p lv c, .slice q lw f]] w (Gives (.tuple #[.agg #[.int .i64 x, .int .i64 y], .bool z]) w) := by
  rcases h with h | ⟨h, h'⟩
  · go_enter Tryd.func34, Tryd.ntmps34
    go_wp2_with fail
    refine (CH.out _ (by (repeat (first | (with_reducible exact Below.refl _ _) | (with_reducible assumption) | (with_reducible apply bl_alloc) | (with_reducible apply bl_drewN) | (with_reducible apply bl_drew) | (with_reducible refine bl_set ?_ (by first | (simp; done) | (simp; omega)) _) | (with_reducible refine bl_call ?_ (by assumption)))))).mono ?_
    rintro e w1 ⟨rfl, hb1⟩
    have D1 := six.on hb1 (six.alloc (o := .cells #[.int .i64 0, .int .i64 0] 24) (six.new (w := w) (t := 33)))
    have T1 : two w1 (w.heap.size + 1) (.int .i64 0) (.int .i64 0) := two.call (by refine ⟨?_, ?_, ?_, ?_, ?_⟩ <;> first | (go_simp; done) | (simp; done) | (simp; omega)) hb1
    obtain ⟨t0, t1, t2, t3, t4⟩ := T1
    have T1 : two _ _ _ _ := ⟨t0, t1, t2, t3, t4⟩
    obtain ⟨d0, d1, d2, d3, d4, d5, d6⟩ := D1
    have D1 : six _ _ _ _ _ _ _ _ := ⟨d0, d1, d2, d3, d4, d5, d6⟩
    go_wp2_with fail
    refine (O.out _).mono ?_
    rintro e w2 ⟨rfl, hb2⟩
    have T2 := two.on hb2 T1
    clear t0 t1 t2 t3 t4
    obtain ⟨t0, t1, t2, t3, t4⟩ := T2
    go_wp2_with fail
    exact bodyPost_ret (v := .tuple #[.agg #[.int .i64 x, .int .i64 y], .bool z]) (by simp [results, Tryd.results34, go_sem, *]) rfl ⟨rfl, by (repeat (first | (with_reducible exact Below.refl _ _) | (with_reducible assumption) | (with_reducible apply bl_alloc) | (with_reducible apply bl_drewN) | (with_reducible apply bl_drew) | (with_reducible refine bl_set ?_ (by first | (simp; done) | (simp; omega)) _) | (with_reducible refine bl_call ?_ (by assumption))))⟩
  · go_enter Tryd.func34, Tryd.ntmps34
    go_wp2_with fail
    refine (CH.out _ (by (repeat (first | (with_reducible exact Below.refl _ _) | (with_reducible assumption) | (with_reducible apply bl_alloc) | (with_reducible apply bl_drewN) | (with_reducible apply bl_drew) | (with_reducible refine bl_set ?_ (by first | (simp; done) | (simp; omega)) _) | (with_reducible refine bl_call ?_ (by assumption)))))).mono ?_
    rintro e w1 ⟨rfl, hb1⟩
    have D1 := six.on hb1 (six.alloc (o := .cells #[.int .i64 0, .int .i64 0] 24) (six.new (w := w) (t := 33)))
    have T1 : two w1 (w.heap.size + 1) (.int .i64 0) (.int .i64 0) := two.call (by refine ⟨?_, ?_, ?_, ?_, ?_⟩ <;> first | (go_simp; done) | (simp; done) | (simp; omega)) hb1
    obtain ⟨t0, t1, t2, t3, t4⟩ := T1
    have T1 : two _ _ _ _ := ⟨t0, t1, t2, t3, t4⟩
    obtain ⟨d0, d1, d2, d3, d4, d5, d6⟩ := D1
    have D1 : six _ _ _ _ _ _ _ _ := ⟨d0, d1, d2, d3, d4, d5, d6⟩
    go_wp2_with fail
    refine (O.out _).mono ?_
    rintro e w2 ⟨rfl, hb2⟩
    have T2 := two.on hb2 T1
    clear t0 t1 t2 t3 t4
    obtain ⟨t0, t1, t2, t3, t4⟩ := T2
    go_wp2_with fail
    exact bodyPost_ret (v := .tuple #[.agg #[.int .i64 x, .int .i64 y], .bool z]) (by simp [results, Tryd.results34, go_sem, *]) rfl ⟨rfl, by (repeat (first | (with_reducible exact Below.refl _ _) | (with_reducible assumption) | (with_reducible apply bl_alloc) | (with_reducible apply bl_drewN) | (with_reducible apply bl_drew) | (with_reducible refine bl_set ?_ (by first | (simp; done) | (simp; omega)) _) | (with_reducible refine bl_call ?_ (by assumption))))⟩
theorem mean5n (a b n : Int) (p : Option Addr) (lv c : Nat) (q : Option Addr) (lw f : Nat) (h : (a == 1) = false) (h' : (b == 1) = false) (w : World) (CH : Hid (∀ w2, Below w.heap.size w w2 → Calls Tryd.prog 10 #[.agg #[.int .i64 5, .int .i64 a, .int .i64 b, .int .i64 n, .slice p lv c, .slice q lw f]] w2 (Gives (.int .i64 0) w2))) : Calls Tryd.prog 34 #[.agg #[.int .i64 5, .int .i64 a, .int .i64 b, .int .i64 n, .slice p lv c, .slice q lw f]] w (Gives (.tuple #[.agg #[.int .i64 0, .int .i64 0], .bool false]) w) := by
  go_enter Tryd.func34, Tryd.ntmps34
  go_wp2_with fail
  refine (CH.out _ (by (repeat (first | (with_reducible exact Below.refl _ _) | (with_reducible assumption) | (with_reducible apply bl_alloc) | (with_reducible apply bl_drewN) | (with_reducible apply bl_drew) | (with_reducible refine bl_set ?_ (by first | (simp; done) | (simp; omega)) _) | (with_reducible refine bl_call ?_ (by assumption)))))).mono ?_
  rintro e w1 ⟨rfl, hb1⟩
  have D1 := six.on hb1 (six.alloc (o := .cells #[.int .i64 0, .int .i64 0] 24) (six.new (w := w) (t := 33)))
  have T1 : two w1 (w.heap.size + 1) (.int .i64 0) (.int .i64 0) := two.call (by refine ⟨?_, ?_, ?_, ?_, ?_⟩ <;> first | (go_simp; done) | (simp; done) | (simp; omega)) hb1
  obtain ⟨t0, t1, t2, t3, t4⟩ := T1
  have T1 : two _ _ _ _ := ⟨t0, t1, t2, t3, t4⟩
  obtain ⟨d0, d1, d2, d3, d4, d5, d6⟩ := D1
  have D1 : six _ _ _ _ _ _ _ _ := ⟨d0, d1, d2, d3, d4, d5, d6⟩
  go_wp2_with fail
  exact bodyPost_ret (v := .tuple #[.agg #[.int .i64 0, .int .i64 0], .bool false]) (by simp [results, Tryd.results34, go_sem, *]) rfl ⟨rfl, by (repeat (first | (with_reducible exact Below.refl _ _) | (with_reducible assumption) | (with_reducible apply bl_alloc) | (with_reducible apply bl_drewN) | (with_reducible apply bl_drew) | (with_reducible refine bl_set ?_ (by first | (simp; done) | (simp; omega)) _) | (with_reducible refine bl_call ?_ (by assumption))))⟩
theorem mean3 (a b n : Int) (p : Option Addr) (lv c : Nat) (q : Option Addr) (lw f : Nat) (x y s t : Int) (z : Bool) (w : World) (CH : Hid (∀ w2, Below w.heap.size w w2 → Calls Tryd.prog 10 #[.agg #[.int .i64 3, .int .i64 a, .int .i64 b, .int .i64 n, .slice p lv c, .slice q lw f]] w2 (Gives (.int .i64 0) w2)))
    (WT : Hid (∀ w2, Below w.heap.size w w2 → Calls Tryd.prog 56 #[.slice p lv c, .slice q lw f] w2 fun e w' => e = .returned (.int .i64 s) ∧ w2 = w')) (SM : Hid (∀ w2, Below w.heap.size w w2 → Calls Tryd.prog 57 #[.slice q lw f] w2 fun e w' => e = .returned (.int .i64 t) ∧ w2 = w'))
    (O : Hid (∀ w2, Calls Tryd.prog 13 #[.int .i64 s, .int .i64 t] w2 (Gives (.tuple #[.agg #[.int .i64 x, .int .i64 y], .bool z]) w2))) : Calls Tryd.prog 34 #[.agg #[.int .i64 3, .int .i64 a, .int .i64 b, .int .i64 n, .slice p lv c, .slice q lw f]] w (Gives (.tuple #[.agg #[.int .i64 x, .int .i64 y], .bool z]) w) := by
  go_enter Tryd.func34, Tryd.ntmps34
  go_wp2_with fail
  refine (CH.out _ (by (repeat (first | (with_reducible exact Below.refl _ _) | (with_reducible assumption) | (with_reducible apply bl_alloc) | (with_reducible apply bl_drewN) | (with_reducible apply bl_drew) | (with_reducible refine bl_set ?_ (by first | (simp; done) | (simp; omega)) _) | (with_reducible refine bl_call ?_ (by assumption)))))).mono ?_
  rintro e w1 ⟨rfl, hb1⟩
  have D1 := six.on hb1 (six.alloc (o := .cells #[.int .i64 0, .int .i64 0] 24) (six.new (w := w) (t := 33)))
  have T1 : two w1 (w.heap.size + 1) (.int .i64 0) (.int .i64 0) := two.call (by refine ⟨?_, ?_, ?_, ?_, ?_⟩ <;> first | (go_simp; done) | (simp; done) | (simp; omega)) hb1
  obtain ⟨t0, t1, t2, t3, t4⟩ := T1
  have T1 : two _ _ _ _ := ⟨t0, t1, t2, t3, t4⟩
  obtain ⟨d0, d1, d2, d3, d4, d5, d6⟩ := D1
  have D1 : six _ _ _ _ _ _ _ _ := ⟨d0, d1, d2, d3, d4, d5, d6⟩
  go_wp2_with fail
  have K0 : w1.cell? ⟨w.heap.size, 4, none⟩ = some (.slice p lv c) ∧ w1.cell? ⟨w.heap.size, 5, none⟩ = some (.slice q lw f) := ⟨d4, d5⟩
  have B1 : Below w.heap.size w w1.drew := by (repeat (first | (with_reducible exact Below.refl _ _) | (with_reducible assumption) | (with_reducible apply bl_alloc) | (with_reducible apply bl_drewN) | (with_reducible apply bl_drew) | (with_reducible refine bl_set ?_ (by first | (simp; done) | (simp; omega)) _) | (with_reducible refine bl_call ?_ (by assumption))))
  have T1' : two w1.drew (w.heap.size + 1) (.int .i64 0) (.int .i64 0) := T1.drew
  have O' := fun w2 hb => (O.out w2).mono fun e w' h => show (e = .returned (.tuple #[.agg #[.int .i64 x, .int .i64 y], .bool z]) ∧ Below w.heap.size w w' ∧ Below w2.heap.size w2 w') from ⟨h.1, bl_call hb h.2, h.2⟩
  have OO := Lib.hid O'
  clear O' O
  go_region_held3 (fun w' => w'.cell? ⟨w.heap.size, 4, none⟩ = some (.slice p lv c) ∧ w'.cell? ⟨w.heap.size, 5, none⟩ = some (.slice q lw f)) (first | (with_reducible exact K0) | (go_keep; done))
    (first
      | (go_at_call 56; refine (WT.out _ B1).mono ?_; rintro e wa ⟨rfl, rfl⟩)
      | (go_at_call 57; refine (SM.out _ B1).mono ?_; rintro e wb ⟨rfl, rfl⟩)
      | (go_at_call 13; refine (OO.out _ B1).mono ?_; rintro e w2 ⟨rfl, hbw, hb2⟩; have T2 := two.on hb2 T1'; obtain ⟨t0, t1, t2, t3, t4⟩ := T2; have K0 : w2.cell? ⟨w.heap.size, 4, none⟩ = some (.slice p lv c) ∧ w2.cell? ⟨w.heap.size, 5, none⟩ = some (.slice q lw f) := ⟨(hb2.cell (p := ⟨w.heap.size, 4, none⟩) d6).trans d4, (hb2.cell (p := ⟨w.heap.size, 5, none⟩) d6).trans d5⟩))
  all_goals
    go_wp2_with fail
    exact bodyPost_ret (v := .tuple #[.agg #[.int .i64 x, .int .i64 y], .bool z]) (by simp [results, Tryd.results34, go_sem, *]) rfl ⟨rfl, by (repeat (first | (with_reducible exact Below.refl _ _) | (with_reducible assumption) | (with_reducible apply bl_alloc) | (with_reducible apply bl_drewN) | (with_reducible apply bl_drew) | (with_reducible refine bl_set ?_ (by first | (simp; done) | (simp; omega)) _) | (with_reducible refine bl_call ?_ (by assumption))))⟩
/-- What Mean answers. -/
def meanO (E op a b n : Int) (lv : Nat) (V W : Nat → Int) : Option (Int × Int) :=
  if E = 0 then (if op = 1 then ofO a 1 else if op = 2 then ofO (a + b) 2 else if op = 3 then ofO (sumP V W lv) (sumT W lv) else if op = 4 then ofO (n * (a + b)) 2 else if a = 1 ∨ b = 1 then ofO 1 1 else none) else none
theorem sumP_bd {V W : Nat → Int} {n : Nat} (h : ∀ i, i < n → 0 ≤ V i * W i ∧ V i * W i ≤ 1000000000000) : 0 ≤ sumP V W n ∧ sumP V W n ≤ 1000000000000 * (n : Int) := by
  induction n with
  | zero => exact ⟨by show (0 : Int) ≤ 0; omega, by show (0 : Int) ≤ _; omega⟩
  | succ k ih =>
    have h1 := ih fun i hi => h i (by omega)
    have h2 := h k (by omega)
    show _ ≤ sumP V W k + V k * W k ∧ sumP V W k + V k * W k ≤ _
    omega
theorem prod_bd {V W : Nat → Int} {n : Nat} (h4 : ∀ i, i < n → 0 ≤ V i ∧ V i ≤ 1000000000) (h5 : ∀ i, i < n → 1 ≤ W i ∧ W i ≤ 1000) : ∀ i, i < n → 0 ≤ V i * W i ∧ V i * W i ≤ 1000000000000 := fun i hi => by
  have h1 := h4 i hi
  have h2 := h5 i hi
  exact ⟨Int.mul_nonneg h1.1 (by omega), Int.mul_le_mul h1.2 h2.2 (by omega) (by decide)⟩
theorem nab_bd {a b n : Int} (h1 : 1 ≤ n) (h2 : n ≤ 20) (h3 : 0 ≤ a + b) (h4 : a + b ≤ 2000000) : 0 ≤ n * (a + b) ∧ n * (a + b) ≤ 40000000 :=
  ⟨Int.mul_nonneg (by omega) h3, Int.mul_le_mul h2 h4 h3 (by decide)⟩
theorem mean_any (op a b n : Int) (p : Option Addr) (lv c : Nat) (q : Option Addr) (lw f : Nat) (V W : Nat → Int) (w : World) (hV : Row w p lv V) (hW : Row w q lw W) : Calls Tryd.prog 34 #[.agg #[.int .i64 op, .int .i64 a, .int .i64 b, .int .i64 n, .slice p lv c, .slice q lw f]] w (Gives (.tuple #[.agg #[.int .i64 (oN (meanO (errD op a b n lv lw V W) op a b n lv V W)), .int .i64 (oD (meanO (errD op a b n lv lw V W) op a b n lv V W))], .bool (oB (meanO (errD op a b n lv lw V W) op a b n lv V W))]) w) := by
  have CH := Lib.hid fun (w2 : World) (hb : Below w.heap.size w w2) => check_any op a b n p lv c q lw f V W w2 (hV.on hb) (hW.on hb)
  unfold meanO
  by_cases h0 : errD op a b n lv lw V W = 0
  · rw [if_pos h0]
    have hA := acc_of h0
    rw [h0] at CH
    rcases hA with ⟨rfl, h⟩ | ⟨rfl, h⟩ | ⟨rfl, rfl, h2, h3, h4, h5⟩ | ⟨rfl, g1, g2, g3, g4, g5⟩ | ⟨rfl, h⟩
    · rw [if_pos rfl]; exact mean1 a b n p lv c q lw f _ _ _ w CH (Lib.hid (of_any a 1 (by omega) (by omega) (by omega) (by omega)))
    · rw [if_neg (by decide), if_pos rfl]; exact mean2 a b n p lv c q lw f _ _ _ _ (by rw [IntKind.wrap_i64]; omega) w CH (Lib.hid (of_any (a + b) 2 (by omega) (by omega) (by omega) (by omega)))
    · rw [if_neg (by decide), if_neg (by decide), if_pos rfl]
      have hp := sumP_bd (prod_bd h4 h5)
      have ht := sumT_bd h5
      refine mean3 a b n p _ c q _ f _ _ _ _ _ w CH (Lib.hid fun w2 hb => ?_) (Lib.hid fun w2 hb => sum_any q _ f W w2 (hW.on hb) h3 (Lib.hid fun i hi => by have := h5 i hi; omega)) (Lib.hid (of_any _ _ (by omega) (by omega) (by omega) (by omega)))
      obtain ⟨-, e | ⟨b1, o1, rfl, hb1, hc1⟩⟩ := hV.on hb
      · omega
      obtain ⟨-, e | ⟨b2, o2, rfl, hb2, hc2⟩⟩ := hW.on hb
      · omega
      exact weighted_any b1 o1 c b2 o2 f _ V W w2 h3 hc1 hc2 (Lib.hid (prod_bd h4 h5))
    · rw [if_neg (by decide), if_neg (by decide), if_neg (by decide), if_pos rfl]
      have hn := nab_bd g1 g2 (a := a) (b := b) (by omega) (by omega)
      exact mean4 a b n p lv c q lw f _ _ (a + b) (n * (a + b)) _ (by rw [IntKind.wrap_i64]; omega) (by rw [IntKind.wrap_i64]; omega) w CH (Lib.hid (of_any _ 2 (by omega) (by omega) (by omega) (by omega)))
    · rw [if_neg (by decide), if_neg (by decide), if_neg (by decide), if_neg (by decide)]
      by_cases ha : a = 1
      · rw [if_pos (.inl ha)]; exact mean5y a b n p lv c q lw f _ _ _ (.inl (by rw [beq_iff_eq]; exact ha)) w CH (Lib.hid (of_any 1 1 (by omega) (by omega) (by omega) (by omega)))
      · have ha' : (a == 1) = false := by rw [beq_eq_false_iff_ne]; exact ha
        by_cases hb : b = 1
        · rw [if_pos (.inr hb)]; exact mean5y a b n p lv c q lw f _ _ _ (.inr ⟨ha', by rw [beq_iff_eq]; exact hb⟩) w CH (Lib.hid (of_any 1 1 (by omega) (by omega) (by omega) (by omega)))
        · rw [if_neg (by omega)]; exact mean5n a b n p lv c q lw f ha' (by rw [beq_eq_false_iff_ne]; exact hb) w CH
  · rw [if_neg h0]
    exact mean_no op a b n p lv c q lw f _ (by rw [bne_iff_ne]; exact h0) w CH
end Go.Proofs.YtnfddeoddjmpkabDoor.Di
