/-
  The contract of the reference's Mean.
-/
import Derived.Test.YteapicfobammjaaDoorDMean
import Derived.Test.YteapicfobammjaaDoorRefFrac
import Derived.Test.YteapicfobammjaaDoorDRefCheck2
namespace Go.Proofs.YteapicfobammjaaDoor.Di
open Go.RowKit
set_option maxHeartbeats 4000000
theorem rmean_no (op a b n : Int) (p : Option Addr) (lv c : Nat) (q : Option Addr) (lw f : Nat) (E : Int) (hE : (E != 0) = true) (w : World) (CH : Hid (∀ w2, Below w.heap.size w w2 → Calls Tryd.prog 25 #[.agg #[.int .i64 op, .int .i64 a, .int .i64 b, .int .i64 n, .slice p lv c, .slice q lw f]] w2 (Gives (.int .i64 E) w2))) : Calls Tryd.prog 23 #[.agg #[.int .i64 op, .int .i64 a, .int .i64 b, .int .i64 n, .slice p lv c, .slice q lw f]] w (Gives (.tuple #[.agg #[.int .i64 0, .int .i64 0], .bool false]) w) := by
  go_enter Tryd.func23, Tryd.ntmps23
  go_wp2_with fail
  refine (CH.out _ (by (repeat (first | (with_reducible exact Below.refl _ _) | (with_reducible assumption) | (with_reducible apply bl_alloc) | (with_reducible apply bl_drewN) | (with_reducible apply bl_drew) | (with_reducible refine bl_set ?_ (by first | (simp; done) | (simp; omega)) _) | (with_reducible refine bl_call ?_ (by assumption)))))).mono ?_
  rintro e w1 ⟨rfl, hb1⟩
  have D1 := six.on hb1 (six.alloc (o := .cells #[.int .i64 0, .int .i64 0] 23) (six.new (w := w) (t := 36)))
  have T1 : two w1 (w.heap.size + 1) (.int .i64 0) (.int .i64 0) := two.call (by refine ⟨?_, ?_, ?_, ?_, ?_⟩ <;> first | (go_simp; done) | (simp; done) | (simp; omega)) hb1
  obtain ⟨t0, t1, t2, t3, t4⟩ := T1
  have T1 : two _ _ _ _ := ⟨t0, t1, t2, t3, t4⟩
  obtain ⟨d0, d1, d2, d3, d4, d5, d6⟩ := D1
  have D1 : six _ _ _ _ _ _ _ _ := ⟨d0, d1, d2, d3, d4, d5, d6⟩
  go_wp2_with fail
  exact bodyPost_ret (v := .tuple #[.agg #[.int .i64 0, .int .i64 0], .bool false]) (by simp [results, Tryd.results23, go_sem, *]) rfl ⟨rfl, by (repeat (first | (with_reducible exact Below.refl _ _) | (with_reducible assumption) | (with_reducible apply bl_alloc) | (with_reducible apply bl_drewN) | (with_reducible apply bl_drew) | (with_reducible refine bl_set ?_ (by first | (simp; done) | (simp; omega)) _) | (with_reducible refine bl_call ?_ (by assumption))))⟩
theorem rmean1 (a b n : Int) (p : Option Addr) (lv c : Nat) (q : Option Addr) (lw f : Nat) (x y : Int) (z : Bool) (w : World) (CH : Hid (∀ w2, Below w.heap.size w w2 → Calls Tryd.prog 25 #[.agg #[.int .i64 1, .int .i64 a, .int .i64 b, .int .i64 n, .slice p lv c, .slice q lw f]] w2 (Gives (.int .i64 0) w2))) (O : Hid (∀ w2, Calls Tryd.prog 59 #[.int .i64 a, .int .i64 1] w2 (Gives (.tuple #[.agg #[.int .i64 x, .int .i64 y], .bool z]) w2))) : Calls Tryd.prog 23 #[.agg #[.int .i64 1, .int .i64 a, .int .i64 b, .int .i64 n, .slice p lv c, .slice q lw f]] w (Gives (.tuple #[.agg #[.int .i64 x, .int .i64 y], .bool z]) w) := by
  go_enter Tryd.func23, Tryd.ntmps23
  go_wp2_with fail
  refine (CH.out _ (by (repeat (first | (with_reducible exact Below.refl _ _) | (with_reducible assumption) | (with_reducible apply bl_alloc) | (with_reducible apply bl_drewN) | (with_reducible apply bl_drew) | (with_reducible refine bl_set ?_ (by first | (simp; done) | (simp; omega)) _) | (with_reducible refine bl_call ?_ (by assumption)))))).mono ?_
  rintro e w1 ⟨rfl, hb1⟩
  have D1 := six.on hb1 (six.alloc (o := .cells #[.int .i64 0, .int .i64 0] 23) (six.new (w := w) (t := 36)))
  have T1 : two w1 (w.heap.size + 1) (.int .i64 0) (.int .i64 0) := two.call (by refine ⟨?_, ?_, ?_, ?_, ?_⟩ <;> first | (go_simp; done) | (simp; done) | (simp; omega)) hb1
  obtain ⟨t0, t1, t2, t3, t4⟩ := T1
  have T1 : two _ _ _ _ := ⟨t0, t1, t2, t3, t4⟩
  obtain ⟨d0, d1, d2, d3, d4, d5, d6⟩ := D1
  have D1 : six _ _ _ _ _ _ _ _ := ⟨d0, d1, d2, d3, d4, d5, d6⟩
  go_wp2_with fail
  refine (O.out _).mono ?_
  rintro e w2 ⟨rfl, hb2⟩
  have T2 := two.on hb2 T1
  clear t0 t1 t2 t3 t4
  obtain ⟨t0, t1, t2, t3, t4⟩ := T2
  go_wp2_with fail
  exact bodyPost_ret (v := .tuple #[.agg #[.int .i64 x, .int .i64 y], .bool z]) (by simp [results, Tryd.results23, go_sem, *]) rfl ⟨rfl, by (repeat (first | (with_reducible exact Below.refl _ _) | (with_reducible assumption) | (with_reducible apply bl_alloc) | (with_reducible apply bl_drewN) | (with_reducible apply bl_drew) | (with_reducible refine bl_set ?_ (by first | (simp; done) | (simp; omega)) _) | (with_reducible refine bl_call ?_ (by assumption))))⟩
theorem rmean2 (a b n : Int) (p : Option Addr) (lv c : Nat) (q : Option Addr) (lw f : Nat) (x y s : Int) (z : Bool) (ws : IntKind.i64.wrap (a + b) = s) (w : World) (CH : Hid (∀ w2, Below w.heap.size w w2 → Calls Tryd.prog 25 #[.agg #[.int .i64 2, .int .i64 a, .int .i64 b, .int .i64 n, .slice p lv c, .slice q lw f]] w2 (Gives (.int .i64 0) w2))) (O : Hid (∀ w2, Calls Tryd.prog 59 #[.int .i64 s, .int .i64 2] w2 (Gives (.tuple #[.agg #[.int .i64 x, .int .i64 y], .bool z]) w2))) : Calls Tryd.prog 23 #[.agg #[.int .i64 2, .int .i64 a, .int .i64 b, .int .i64 n, .slice p lv c, .slice q lw f]] w (Gives (.tuple #[.agg #[.int .i64 x, .int .i64 y], .bool z]) w) := by
  go_enter Tryd.func23, Tryd.ntmps23
  go_wp2_with fail
  refine (CH.out _ (by (repeat (first | (with_reducible exact Below.refl _ _) | (with_reducible assumption) | (with_reducible apply bl_alloc) | (with_reducible apply bl_drewN) | (with_reducible apply bl_drew) | (with_reducible refine bl_set ?_ (by first | (simp; done) | (simp; omega)) _) | (with_reducible refine bl_call ?_ (by assumption)))))).mono ?_
  rintro e w1 ⟨rfl, hb1⟩
  have D1 := six.on hb1 (six.alloc (o := .cells #[.int .i64 0, .int .i64 0] 23) (six.new (w := w) (t := 36)))
  have T1 : two w1 (w.heap.size + 1) (.int .i64 0) (.int .i64 0) := two.call (by refine ⟨?_, ?_, ?_, ?_, ?_⟩ <;> first | (go_simp; done) | (simp; done) | (simp; omega)) hb1
  obtain ⟨t0, t1, t2, t3, t4⟩ := T1
  have T1 : two _ _ _ _ := ⟨t0, t1, t2, t3, t4⟩
  obtain ⟨d0, d1, d2, d3, d4, d5, d6⟩ := D1
  have D1 : six _ _ _ _ _ _ _ _ := ⟨d0, d1, d2, d3, d4, d5, d6⟩
  go_wp2_with fail
  refine (O.out _).mono ?_
  rintro e w2 ⟨rfl, hb2⟩
  have T2 := two.on hb2 T1
  clear t0 t1 t2 t3 t4
  obtain ⟨t0, t1, t2, t3, t4⟩ := T2
  go_wp2_with fail
  exact bodyPost_ret (v := .tuple #[.agg #[.int .i64 x, .int .i64 y], .bool z]) (by simp [results, Tryd.results23, go_sem, *]) rfl ⟨rfl, by (repeat (first | (with_reducible exact Below.refl _ _) | (with_reducible assumption) | (with_reducible apply bl_alloc) | (with_reducible apply bl_drewN) | (with_reducible apply bl_drew) | (with_reducible refine bl_set ?_ (by first | (simp; done) | (simp; omega)) _) | (with_reducible refine bl_call ?_ (by assumption))))⟩
theorem rmean4 (a b n : Int) (p : Option Addr) (lv c : Nat) (q : Option Addr) (lw f : Nat) (x y s t : Int) (z : Bool) (ws : IntKind.i64.wrap (a + b) = s) (wt : IntKind.i64.wrap (n * s) = t) (w : World) (CH : Hid (∀ w2, Below w.heap.size w w2 → Calls Tryd.prog 25 #[.agg #[.int .i64 4, .int .i64 a, .int .i64 b, .int .i64 n, .slice p lv c, .slice q lw f]] w2 (Gives (.int .i64 0) w2))) (O : Hid (∀ w2, Calls Tryd.prog 59 #[.int .i64 t, .int .i64 2] w2 (Gives (.tuple #[.agg #[.int .i64 x, .int .i64 y], .bool z]) w2))) : Calls Tryd.prog 23 #[.agg #[.int .i64 4, .int .i64 a, .int .i64 b, .int .i64 n, .slice p lv c, .slice q lw f]] w (Gives (.tuple #[.agg #[.int .i64 x, .int .i64 y], .bool z]) w) := by
  go_enter Tryd.func23, Tryd.ntmps23
  go_wp2_with fail
  refine (CH.out _ (by (repeat (first | (with_reducible exact Below.refl _ _) | (with_reducible assumption) | (with_reducible apply bl_alloc) | (with_reducible apply bl_drewN) | (with_reducible apply bl_drew) | (with_reducible refine bl_set ?_ (by first | (simp; done) | (simp; omega)) _) | (with_reducible refine bl_call ?_ (by assumption)))))).mono ?_
  rintro e w1 ⟨rfl, hb1⟩
  have D1 := six.on hb1 (six.alloc (o := .cells #[.int .i64 0, .int .i64 0] 23) (six.new (w := w) (t := 36)))
  have T1 : two w1 (w.heap.size + 1) (.int .i64 0) (.int .i64 0) := two.call (by refine ⟨?_, ?_, ?_, ?_, ?_⟩ <;> first | (go_simp; done) | (simp; done) | (simp; omega)) hb1
  obtain ⟨t0, t1, t2, t3, t4⟩ := T1
  have T1 : two _ _ _ _ := ⟨t0, t1, t2, t3, t4⟩
  obtain ⟨d0, d1, d2, d3, d4, d5, d6⟩ := D1
  have D1 : six _ _ _ _ _ _ _ _ := ⟨d0, d1, d2, d3, d4, d5, d6⟩
  go_wp2_with fail
  refine (O.out _).mono ?_
  rintro e w2 ⟨rfl, hb2⟩
  have T2 := two.on hb2 T1
  clear t0 t1 t2 t3 t4
  obtain ⟨t0, t1, t2, t3, t4⟩ := T2
  go_wp2_with fail
  exact bodyPost_ret (v := .tuple #[.agg #[.int .i64 x, .int .i64 y], .bool z]) (by simp [results, Tryd.results23, go_sem, *]) rfl ⟨rfl, by (repeat (first | (with_reducible exact Below.refl _ _) | (with_reducible assumption) | (with_reducible apply bl_alloc) | (with_reducible apply bl_drewN) | (with_reducible apply bl_drew) | (with_reducible refine bl_set ?_ (by first | (simp; done) | (simp; omega)) _) | (with_reducible refine bl_call ?_ (by assumption))))⟩
theorem rmean5y (a b n : Int) (p : Option Addr) (lv c : Nat) (q : Option Addr) (lw f : Nat) (x y : Int) (z : Bool) (h : (a == 1) = true ∨ ((a == 1) = false ∧ (b == 1) = true)) (w : World) (CH : Hid (∀ w2, Below w.heap.size w w2 → Calls Tryd.prog 25 #[.agg #[.int .i64 5, .int .i64 a, .int .i64 b, .int .i64 n, .slice p lv c, .slice q lw f]] w2 (Gives (.int .i64 0) w2))) (O : Hid (∀ w2, Calls Tryd.prog 59 #[.int .i64 1, .int .i64 1] w2 (Gives (.tuple #[.agg #[.int .i64 x, .int .i64 y], .bool z]) w2))) : Calls Tryd.prog 23 #[.agg #[.int .i64 5, .int .i64 a, .int .i64 b, .int .i64 n, .slice p lv c, .slice q lw f]] w (Gives (.tuple #[.agg #[.int .i64 x, .int .i64 y], .bool z]) w) := by
  rcases h with h | ⟨h, h'⟩
  · go_enter Tryd.func23, Tryd.ntmps23
    go_wp2_with fail
    refine (CH.out _ (by (repeat (first | (with_reducible exact Below.refl _ _) | (with_reducible assumption) | (with_reducible apply bl_alloc) | (with_reducible apply bl_drewN) | (with_reducible apply bl_drew) | (with_reducible refine bl_set ?_ (by first | (simp; done) | (simp; omega)) _) | (with_reducible refine bl_call ?_ (by assumption)))))).mono ?_
    rintro e w1 ⟨rfl, hb1⟩
    have D1 := six.on hb1 (six.alloc (o := .cells #[.int .i64 0, .int .i64 0] 23) (six.new (w := w) (t := 36)))
    have T1 : two w1 (w.heap.size + 1) (.int .i64 0) (.int .i64 0) := two.call (by refine ⟨?_, ?_, ?_, ?_, ?_⟩ <;> first | (go_simp; done) | (simp; done) | (simp; omega)) hb1
    obtain ⟨t0, t1, t2, t3, t4⟩ := T1
    have T1 : two _ _ _ _ := ⟨t0, t1, t2, t3, t4⟩
    obtain ⟨d0, d1, d2, d3, d4, d5, d6⟩ := D1
    have D1 : six _ _ _ _ _ _ _ _ := ⟨d0, d1, d2, d3, d4, d5, d6⟩
    go_wp2_with fail
    refine (O.out _).mono ?_
    rintro e w2 ⟨rfl, hb2⟩
    have T2 := two.on hb2 T1
    clear t0 t1 t2 t3 t4
    obtain ⟨t0, t1, t2, t3, t4⟩ := T2
    go_wp2_with fail
    exact bodyPost_ret (v := .tuple #[.agg #[.int .i64 x, .int .i64 y], .bool z]) (by simp [results, Tryd.results23, go_sem, *]) rfl ⟨rfl, by (repeat (first | (with_reducible exact Below.refl _ _) | (with_reducible assumption) | (with_reducible apply bl_alloc) | (with_reducible apply bl_drewN) | (with_reducible apply bl_drew) | (with_reducible refine bl_set ?_ (by first | (simp; done) | (simp; omega)) _) | (with_reducible refine bl_call ?_ (by assumption))))⟩
  · go_enter Tryd.func23, Tryd.ntmps23
    go_wp2_with fail
    refine (CH.out _ (by (repeat (first | (with_reducible exact Below.refl _ _) | (with_reducible assumption) | (with_reducible apply bl_alloc) | (with_reducible apply bl_drewN) | (with_reducible apply bl_drew) | (with_reducible refine bl_set ?_ (by first | (simp; done) | (simp; omega)) _) | (with_reducible refine bl_call ?_ (by assumption)))))).mono ?_
    rintro e w1 ⟨rfl, hb1⟩
    have D1 := six.on hb1 (six.alloc (o := .cells #[.int .i64 0, .int .i64 0] 23) (six.new (w := w) (t := 36)))
    have T1 : two w1 (w.heap.size + 1) (.int .i64 0) (.int .i64 0) := two.call (by refine ⟨?_, ?_, ?_, ?_, ?_⟩ <;> first | (go_simp; done) | (simp; done) | (simp; omega)) hb1
    obtain ⟨t0, t1, t2, t3, t4⟩ := T1
    have T1 : two _ _ _ _ := ⟨t0, t1, t2, t3, t4⟩
    obtain ⟨d0, d1, d2, d3, d4, d5, d6⟩ := D1
    have D1 : six _ _ _ _ _ _ _ _ := ⟨d0, d1, d2, d3, d4, d5, d6⟩
    go_wp2_with fail
    refine (O.out _).mono ?_
    rintro e w2 ⟨rfl, hb2⟩
    have T2 := two.on hb2 T1
    clear t0 t1 t2 t3 t4
    obtain ⟨t0, t1, t2, t3, t4⟩ := T2
    go_wp2_with fail
    exact bodyPost_ret (v := .tuple #[.agg #[.int .i64 x, .int .i64 y], .bool z]) (by simp [results, Tryd.results23, go_sem, *]) rfl ⟨rfl, by (repeat (first | (with_reducible exact Below.refl _ _) | (with_reducible assumption) | (with_reducible apply bl_alloc) | (with_reducible apply bl_drewN) | (with_reducible apply bl_drew) | (with_reducible refine bl_set ?_ (by first | (simp; done) | (simp; omega)) _) | (with_reducible refine bl_call ?_ (by assumption))))⟩
theorem rmean5n (a b n : Int) (p : Option Addr) (lv c : Nat) (q : Option Addr) (lw f : Nat) (h : (a == 1) = false) (h' : (b == 1) = false) (w : World) (CH : Hid (∀ w2, Below w.heap.size w w2 → Calls Tryd.prog 25 #[.agg #[.int .i64 5, .int .i64 a, .int .i64 b, .int .i64 n, .slice p lv c, .slice q lw f]] w2 (Gives (.int .i64 0) w2))) : Calls Tryd.prog 23 #[.agg #[.int .i64 5, .int .i64 a, .int .i64 b, .int .i64 n, .slice p lv c, .slice q lw f]] w (Gives (.tuple #[.agg #[.int .i64 0, .int .i64 0], .bool false]) w) := by
  go_enter Tryd.func23, Tryd.ntmps23
  go_wp2_with fail
  refine (CH.out _ (by (repeat (first | (with_reducible exact Below.refl _ _) | (with_reducible assumption) | (with_reducible apply bl_alloc) | (with_reducible apply bl_drewN) | (with_reducible apply bl_drew) | (with_reducible refine bl_set ?_ (by first | (simp; done) | (simp; omega)) _) | (with_reducible refine bl_call ?_ (by assumption)))))).mono ?_
  rintro e w1 ⟨rfl, hb1⟩
  have D1 := six.on hb1 (six.alloc (o := .cells #[.int .i64 0, .int .i64 0] 23) (six.new (w := w) (t := 36)))
  have T1 : two w1 (w.heap.size + 1) (.int .i64 0) (.int .i64 0) := two.call (by refine ⟨?_, ?_, ?_, ?_, ?_⟩ <;> first | (go_simp; done) | (simp; done) | (simp; omega)) hb1
  obtain ⟨t0, t1, t2, t3, t4⟩ := T1
  have T1 : two _ _ _ _ := ⟨t0, t1, t2, t3, t4⟩
  obtain ⟨d0, d1, d2, d3, d4, d5, d6⟩ := D1
  have D1 : six _ _ _ _ _ _ _ _ := ⟨d0, d1, d2, d3, d4, d5, d6⟩
  go_wp2_with fail
  exact bodyPost_ret (v := .tuple #[.agg #[.int .i64 0, .int .i64 0], .bool false]) (by simp [results, Tryd.results23, go_sem, *]) rfl ⟨rfl, by (repeat (first | (with_reducible exact Below.refl _ _) | (with_reducible assumption) | (with_reducible apply bl_alloc) | (with_reducible apply bl_drewN) | (with_reducible apply bl_drew) | (with_reducible refine bl_set ?_ (by first | (simp; done) | (simp; omega)) _) | (with_reducible refine bl_call ?_ (by assumption))))⟩
end Go.Proofs.YteapicfobammjaaDoor.Di
