/-
  The statement DistGrows, walked.
-/
import Derived.Test.YteapicfobammjaaDoorDLaw1
import Derived.Test.YteapicfobammjaaDoorDMono
namespace Go.Proofs.YteapicfobammjaaDoor.Di
open Go.RowKit
set_option maxHeartbeats 8000000
set_option maxRecDepth 100000 in
theorem grows_no (op a b n : Int) (p : Option Addr) (lv c : Nat) (q : Option Addr) (lw f : Nat) (u v : Nat) (w : World) (SH : Hid (∀ w2, Calls Tryd.prog 20 #[.agg #[.int .i64 op, .int .i64 a, .int .i64 b, .int .i64 n, .slice p lv c, .slice q lw f]] w2 (Gives (.bool false) w2))) (AW : Hid (∀ w2, Below w.heap.size w w2 → Calls Tryd.prog 21 #[] w2 (Gives (.bool true) w2))) : Calls Tryd.prog 8 #[.agg #[.int .i64 op, .int .i64 a, .int .i64 b, .int .i64 n, .slice p lv c, .slice q lw f], .int .u64 u, .int .u64 v] w (Gives (.bool true) w) := by
  go_enter Tryd.func8, Tryd.ntmps8
  go_wp2_with fail
  refine (SH.out _).mono ?_
  rintro e w1 ⟨rfl, hb1⟩
  go_wp2_with fail
  refine (AW.out _ (by (repeat (first | (with_reducible exact Below.refl _ _) | (with_reducible assumption) | (with_reducible apply bl_alloc) | (with_reducible apply bl_drewN) | (with_reducible apply bl_drew) | (with_reducible refine bl_set ?_ (by first | (simp; done) | (simp; omega)) _) | (with_reducible refine bl_call ?_ (by assumption)))))).mono ?_
  rintro e w2 ⟨rfl, hb2⟩
  go_wp2_with fail
  go_ret
  exact ⟨rfl, by (repeat (first | (with_reducible exact Below.refl _ _) | (with_reducible assumption) | (with_reducible apply bl_alloc) | (with_reducible apply bl_drewN) | (with_reducible apply bl_drew) | (with_reducible refine bl_set ?_ (by first | (simp; done) | (simp; omega)) _) | (with_reducible refine bl_call ?_ (by assumption))))⟩
set_option maxRecDepth 100000 in
theorem grows_bad (op a b n : Int) (p : Option Addr) (lv c : Nat) (q : Option Addr) (lw f : Nat) (E : Int) (hE : (E == 0) = false) (u v : Nat) (w : World) (SH : Hid (∀ w2, Calls Tryd.prog 20 #[.agg #[.int .i64 op, .int .i64 a, .int .i64 b, .int .i64 n, .slice p lv c, .slice q lw f]] w2 (Gives (.bool true) w2))) (AW : Hid (∀ w2, Below w.heap.size w w2 → Calls Tryd.prog 21 #[] w2 (Gives (.bool true) w2))) (CH : Hid (∀ w2, Below w.heap.size w w2 → Calls Tryd.prog 24 #[.agg #[.int .i64 op, .int .i64 a, .int .i64 b, .int .i64 n, .slice p lv c, .slice q lw f]] w2 (Gives (.int .i64 E) w2))) (AL : Hid (∀ w2, Below w.heap.size w w2 → Calls Tryd.prog 30 #[.agg #[.int .i64 op, .int .i64 a, .int .i64 b, .int .i64 n, .slice p lv c, .slice q lw f], .int .u64 (min (u : Int) v)] w2 (Gives (.tuple #[.int .i64 0, .bool false]) w2))) (AH : Hid (∀ w2, Below w.heap.size w w2 → Calls Tryd.prog 30 #[.agg #[.int .i64 op, .int .i64 a, .int .i64 b, .int .i64 n, .slice p lv c, .slice q lw f], .int .u64 (max (u : Int) v)] w2 (Gives (.tuple #[.int .i64 0, .bool false]) w2))) :
    Calls Tryd.prog 8 #[.agg #[.int .i64 op, .int .i64 a, .int .i64 b, .int .i64 n, .slice p lv c, .slice q lw f], .int .u64 u, .int .u64 v] w (Gives (.bool true) w) := by
  go_enter Tryd.func8, Tryd.ntmps8
  go_wp2_with fail
  refine (SH.out _).mono ?_
  rintro e w1 ⟨rfl, hb1⟩
  have D1 := six.on hb1 (six.new (w := w) (t := 36))
  obtain ⟨d0, d1, d2, d3, d4, d5, d6⟩ := D1
  have D1 : six _ _ _ _ _ _ _ _ := ⟨d0, d1, d2, d3, d4, d5, d6⟩
  go_wp2_with fail
  refine (AL.out _ (by (repeat (first | (with_reducible exact Below.refl _ _) | (with_reducible assumption) | (with_reducible apply bl_alloc) | (with_reducible apply bl_drewN) | (with_reducible apply bl_drew) | (with_reducible refine bl_set ?_ (by first | (simp; done) | (simp; omega)) _) | (with_reducible refine bl_call ?_ (by assumption)))))).mono ?_
  rintro e w2 ⟨rfl, hb2⟩
  have D2 := six.on hb2 D1
  clear d0 d1 d2 d3 d4 d5 d6
  obtain ⟨d0, d1, d2, d3, d4, d5, d6⟩ := D2
  have D2 : six _ _ _ _ _ _ _ _ := ⟨d0, d1, d2, d3, d4, d5, d6⟩
  go_wp2_with fail
  refine (AH.out _ (by (repeat (first | (with_reducible exact Below.refl _ _) | (with_reducible assumption) | (with_reducible apply bl_alloc) | (with_reducible apply bl_drewN) | (with_reducible apply bl_drew) | (with_reducible refine bl_set ?_ (by first | (simp; done) | (simp; omega)) _) | (with_reducible refine bl_call ?_ (by assumption)))))).mono ?_
  rintro e w3 ⟨rfl, hb3⟩
  have D3 := six.on hb3 D2
  clear d0 d1 d2 d3 d4 d5 d6
  obtain ⟨d0, d1, d2, d3, d4, d5, d6⟩ := D3
  have D3 : six _ _ _ _ _ _ _ _ := ⟨d0, d1, d2, d3, d4, d5, d6⟩
  go_wp2_with fail
  refine (CH.out _ (by (repeat (first | (with_reducible exact Below.refl _ _) | (with_reducible assumption) | (with_reducible apply bl_alloc) | (with_reducible apply bl_drewN) | (with_reducible apply bl_drew) | (with_reducible refine bl_set ?_ (by first | (simp; done) | (simp; omega)) _) | (with_reducible refine bl_call ?_ (by assumption)))))).mono ?_
  rintro e w4 ⟨rfl, hb4⟩
  have D4 := six.on hb4 D3
  clear d0 d1 d2 d3 d4 d5 d6
  obtain ⟨d0, d1, d2, d3, d4, d5, d6⟩ := D4
  have D4 : six _ _ _ _ _ _ _ _ := ⟨d0, d1, d2, d3, d4, d5, d6⟩
  go_wp2_with fail
  refine (AW.out _ (by (repeat (first | (with_reducible exact Below.refl _ _) | (with_reducible assumption) | (with_reducible apply bl_alloc) | (with_reducible apply bl_drewN) | (with_reducible apply bl_drew) | (with_reducible refine bl_set ?_ (by first | (simp; done) | (simp; omega)) _) | (with_reducible refine bl_call ?_ (by assumption)))))).mono ?_
  rintro e w5 ⟨rfl, hb5⟩
  go_wp2_with fail
  go_ret
  exact ⟨rfl, by (repeat (first | (with_reducible exact Below.refl _ _) | (with_reducible assumption) | (with_reducible apply bl_alloc) | (with_reducible apply bl_drewN) | (with_reducible apply bl_drew) | (with_reducible refine bl_set ?_ (by first | (simp; done) | (simp; omega)) _) | (with_reducible refine bl_call ?_ (by assumption))))⟩
set_option maxRecDepth 100000 in
theorem grows_sum (a b n : Int) (p : Option Addr) (lv c : Nat) (q : Option Addr) (lw f : Nat) (u v : Nat) (w : World) (SH : Hid (∀ w2, Calls Tryd.prog 20 #[.agg #[.int .i64 4, .int .i64 a, .int .i64 b, .int .i64 n, .slice p lv c, .slice q lw f]] w2 (Gives (.bool true) w2))) (AW : Hid (∀ w2, Below w.heap.size w w2 → Calls Tryd.prog 21 #[] w2 (Gives (.bool true) w2))) (CH : Hid (∀ w2, Below w.heap.size w w2 → Calls Tryd.prog 24 #[.agg #[.int .i64 4, .int .i64 a, .int .i64 b, .int .i64 n, .slice p lv c, .slice q lw f]] w2 (Gives (.int .i64 0) w2))) (AL : Hid (∀ w2, Below w.heap.size w w2 → Calls Tryd.prog 30 #[.agg #[.int .i64 4, .int .i64 a, .int .i64 b, .int .i64 n, .slice p lv c, .slice q lw f], .int .u64 (min (u : Int) v)] w2 (Gives (.tuple #[.int .i64 0, .bool false]) w2))) (AH : Hid (∀ w2, Below w.heap.size w w2 → Calls Tryd.prog 30 #[.agg #[.int .i64 4, .int .i64 a, .int .i64 b, .int .i64 n, .slice p lv c, .slice q lw f], .int .u64 (max (u : Int) v)] w2 (Gives (.tuple #[.int .i64 0, .bool false]) w2))) :
    Calls Tryd.prog 8 #[.agg #[.int .i64 4, .int .i64 a, .int .i64 b, .int .i64 n, .slice p lv c, .slice q lw f], .int .u64 u, .int .u64 v] w (Gives (.bool true) w) := by
  go_enter Tryd.func8, Tryd.ntmps8
  go_wp2_with fail
  refine (SH.out _).mono ?_
  rintro e w1 ⟨rfl, hb1⟩
  have D1 := six.on hb1 (six.new (w := w) (t := 36))
  obtain ⟨d0, d1, d2, d3, d4, d5, d6⟩ := D1
  have D1 : six _ _ _ _ _ _ _ _ := ⟨d0, d1, d2, d3, d4, d5, d6⟩
  go_wp2_with fail
  refine (AL.out _ (by (repeat (first | (with_reducible exact Below.refl _ _) | (with_reducible assumption) | (with_reducible apply bl_alloc) | (with_reducible apply bl_drewN) | (with_reducible apply bl_drew) | (with_reducible refine bl_set ?_ (by first | (simp; done) | (simp; omega)) _) | (with_reducible refine bl_call ?_ (by assumption)))))).mono ?_
  rintro e w2 ⟨rfl, hb2⟩
  have D2 := six.on hb2 D1
  clear d0 d1 d2 d3 d4 d5 d6
  obtain ⟨d0, d1, d2, d3, d4, d5, d6⟩ := D2
  have D2 : six _ _ _ _ _ _ _ _ := ⟨d0, d1, d2, d3, d4, d5, d6⟩
  go_wp2_with fail
  refine (AH.out _ (by (repeat (first | (with_reducible exact Below.refl _ _) | (with_reducible assumption) | (with_reducible apply bl_alloc) | (with_reducible apply bl_drewN) | (with_reducible apply bl_drew) | (with_reducible refine bl_set ?_ (by first | (simp; done) | (simp; omega)) _) | (with_reducible refine bl_call ?_ (by assumption)))))).mono ?_
  rintro e w3 ⟨rfl, hb3⟩
  have D3 := six.on hb3 D2
  clear d0 d1 d2 d3 d4 d5 d6
  obtain ⟨d0, d1, d2, d3, d4, d5, d6⟩ := D3
  have D3 : six _ _ _ _ _ _ _ _ := ⟨d0, d1, d2, d3, d4, d5, d6⟩
  go_wp2_with fail
  refine (CH.out _ (by (repeat (first | (with_reducible exact Below.refl _ _) | (with_reducible assumption) | (with_reducible apply bl_alloc) | (with_reducible apply bl_drewN) | (with_reducible apply bl_drew) | (with_reducible refine bl_set ?_ (by first | (simp; done) | (simp; omega)) _) | (with_reducible refine bl_call ?_ (by assumption)))))).mono ?_
  rintro e w4 ⟨rfl, hb4⟩
  have D4 := six.on hb4 D3
  clear d0 d1 d2 d3 d4 d5 d6
  obtain ⟨d0, d1, d2, d3, d4, d5, d6⟩ := D4
  have D4 : six _ _ _ _ _ _ _ _ := ⟨d0, d1, d2, d3, d4, d5, d6⟩
  go_wp2_with fail
  refine (AW.out _ (by (repeat (first | (with_reducible exact Below.refl _ _) | (with_reducible assumption) | (with_reducible apply bl_alloc) | (with_reducible apply bl_drewN) | (with_reducible apply bl_drew) | (with_reducible refine bl_set ?_ (by first | (simp; done) | (simp; omega)) _) | (with_reducible refine bl_call ?_ (by assumption)))))).mono ?_
  rintro e w5 ⟨rfl, hb5⟩
  go_wp2_with fail
  go_ret
  exact ⟨rfl, by (repeat (first | (with_reducible exact Below.refl _ _) | (with_reducible assumption) | (with_reducible apply bl_alloc) | (with_reducible apply bl_drewN) | (with_reducible apply bl_drew) | (with_reducible refine bl_set ?_ (by first | (simp; done) | (simp; omega)) _) | (with_reducible refine bl_call ?_ (by assumption))))⟩
set_option maxRecDepth 100000 in
theorem grows_good (op a b n : Int) (p : Option Addr) (lv c : Nat) (q : Option Addr) (lw f : Nat) (h4 : (op != 4) = true) (u v : Nat) (x y le mo : Int) (h1 : decide (le ≤ x) = true) (h2 : decide (x ≤ y) = true) (h3 : decide (y ≤ mo) = true) (w : World) (SH : Hid (∀ w2, Calls Tryd.prog 20 #[.agg #[.int .i64 op, .int .i64 a, .int .i64 b, .int .i64 n, .slice p lv c, .slice q lw f]] w2 (Gives (.bool true) w2))) (AW : Hid (∀ w2, Below w.heap.size w w2 → Calls Tryd.prog 21 #[] w2 (Gives (.bool true) w2))) (CH : Hid (∀ w2, Below w.heap.size w w2 → Calls Tryd.prog 24 #[.agg #[.int .i64 op, .int .i64 a, .int .i64 b, .int .i64 n, .slice p lv c, .slice q lw f]] w2 (Gives (.int .i64 0) w2))) (AL : Hid (∀ w2, Below w.heap.size w w2 → Calls Tryd.prog 30 #[.agg #[.int .i64 op, .int .i64 a, .int .i64 b, .int .i64 n, .slice p lv c, .slice q lw f], .int .u64 (min (u : Int) v)] w2 (Gives (.tuple #[.int .i64 x, .bool true]) w2))) (AH : Hid (∀ w2, Below w.heap.size w w2 → Calls Tryd.prog 30 #[.agg #[.int .i64 op, .int .i64 a, .int .i64 b, .int .i64 n, .slice p lv c, .slice q lw f], .int .u64 (max (u : Int) v)] w2 (Gives (.tuple #[.int .i64 y, .bool true]) w2)))
    (LE : Hid (∀ w2, Below w.heap.size w w2 → Calls Tryd.prog 32 #[.agg #[.int .i64 op, .int .i64 a, .int .i64 b, .int .i64 n, .slice p lv c, .slice q lw f]] w2 (Gives (.int .i64 le) w2))) (MO : Hid (∀ w2, Below w.heap.size w w2 → Calls Tryd.prog 34 #[.agg #[.int .i64 op, .int .i64 a, .int .i64 b, .int .i64 n, .slice p lv c, .slice q lw f]] w2 (Gives (.int .i64 mo) w2))) :
    Calls Tryd.prog 8 #[.agg #[.int .i64 op, .int .i64 a, .int .i64 b, .int .i64 n, .slice p lv c, .slice q lw f], .int .u64 u, .int .u64 v] w (Gives (.bool true) w) := by
  go_enter Tryd.func8, Tryd.ntmps8
  go_wp2_with fail
  refine (SH.out _).mono ?_
  rintro e w1 ⟨rfl, hb1⟩
  have D1 := six.on hb1 (six.new (w := w) (t := 36))
  obtain ⟨d0, d1, d2, d3, d4, d5, d6⟩ := D1
  have D1 : six _ _ _ _ _ _ _ _ := ⟨d0, d1, d2, d3, d4, d5, d6⟩
  go_wp2_with fail
  refine (AL.out _ (by (repeat (first | (with_reducible exact Below.refl _ _) | (with_reducible assumption) | (with_reducible apply bl_alloc) | (with_reducible apply bl_drewN) | (with_reducible apply bl_drew) | (with_reducible refine bl_set ?_ (by first | (simp; done) | (simp; omega)) _) | (with_reducible refine bl_call ?_ (by assumption)))))).mono ?_
  rintro e w2 ⟨rfl, hb2⟩
  have D2 := six.on hb2 D1
  clear d0 d1 d2 d3 d4 d5 d6
  obtain ⟨d0, d1, d2, d3, d4, d5, d6⟩ := D2
  have D2 : six _ _ _ _ _ _ _ _ := ⟨d0, d1, d2, d3, d4, d5, d6⟩
  go_wp2_with fail
  refine (AH.out _ (by (repeat (first | (with_reducible exact Below.refl _ _) | (with_reducible assumption) | (with_reducible apply bl_alloc) | (with_reducible apply bl_drewN) | (with_reducible apply bl_drew) | (with_reducible refine bl_set ?_ (by first | (simp; done) | (simp; omega)) _) | (with_reducible refine bl_call ?_ (by assumption)))))).mono ?_
  rintro e w3 ⟨rfl, hb3⟩
  have D3 := six.on hb3 D2
  clear d0 d1 d2 d3 d4 d5 d6
  obtain ⟨d0, d1, d2, d3, d4, d5, d6⟩ := D3
  have D3 : six _ _ _ _ _ _ _ _ := ⟨d0, d1, d2, d3, d4, d5, d6⟩
  go_wp2_with fail
  refine (CH.out _ (by (repeat (first | (with_reducible exact Below.refl _ _) | (with_reducible assumption) | (with_reducible apply bl_alloc) | (with_reducible apply bl_drewN) | (with_reducible apply bl_drew) | (with_reducible refine bl_set ?_ (by first | (simp; done) | (simp; omega)) _) | (with_reducible refine bl_call ?_ (by assumption)))))).mono ?_
  rintro e w4 ⟨rfl, hb4⟩
  have D4 := six.on hb4 D3
  clear d0 d1 d2 d3 d4 d5 d6
  obtain ⟨d0, d1, d2, d3, d4, d5, d6⟩ := D4
  have D4 : six _ _ _ _ _ _ _ _ := ⟨d0, d1, d2, d3, d4, d5, d6⟩
  go_wp2_with fail
  refine (LE.out _ (by (repeat (first | (with_reducible exact Below.refl _ _) | (with_reducible assumption) | (with_reducible apply bl_alloc) | (with_reducible apply bl_drewN) | (with_reducible apply bl_drew) | (with_reducible refine bl_set ?_ (by first | (simp; done) | (simp; omega)) _) | (with_reducible refine bl_call ?_ (by assumption)))))).mono ?_
  rintro e w5 ⟨rfl, hb5⟩
  have D5 := six.on hb5 D4
  clear d0 d1 d2 d3 d4 d5 d6
  obtain ⟨d0, d1, d2, d3, d4, d5, d6⟩ := D5
  have D5 : six _ _ _ _ _ _ _ _ := ⟨d0, d1, d2, d3, d4, d5, d6⟩
  go_wp2_with fail
  refine (MO.out _ (by (repeat (first | (with_reducible exact Below.refl _ _) | (with_reducible assumption) | (with_reducible apply bl_alloc) | (with_reducible apply bl_drewN) | (with_reducible apply bl_drew) | (with_reducible refine bl_set ?_ (by first | (simp; done) | (simp; omega)) _) | (with_reducible refine bl_call ?_ (by assumption)))))).mono ?_
  rintro e w6 ⟨rfl, hb6⟩
  go_wp2_with fail
  refine (AW.out _ (by (repeat (first | (with_reducible exact Below.refl _ _) | (with_reducible assumption) | (with_reducible apply bl_alloc) | (with_reducible apply bl_drewN) | (with_reducible apply bl_drew) | (with_reducible refine bl_set ?_ (by first | (simp; done) | (simp; omega)) _) | (with_reducible refine bl_call ?_ (by assumption)))))).mono ?_
  rintro e w7 ⟨rfl, hb7⟩
  go_wp2_with fail
  go_ret
  exact ⟨rfl, by (repeat (first | (with_reducible exact Below.refl _ _) | (with_reducible assumption) | (with_reducible apply bl_alloc) | (with_reducible apply bl_drewN) | (with_reducible apply bl_drew) | (with_reducible refine bl_set ?_ (by first | (simp; done) | (simp; omega)) _) | (with_reducible refine bl_call ?_ (by assumption))))⟩
theorem distGrows_walk (op a b n : Int) (p : Option Addr) (lv c : Nat) (q : Option Addr) (lw f : Nat) (V W : Nat → Int) (u : Nat) (hu : u < 18446744073709551616) (v : Nat) (hv : v < 18446744073709551616) (w : World) (hE : Env w) (hV : Row w p lv V) (hW : Row w q lw W) : Calls Tryd.prog 8 #[.agg #[.int .i64 op, .int .i64 a, .int .i64 b, .int .i64 n, .slice p lv c, .slice q lw f], .int .u64 u, .int .u64 v] w (Gives (.bool true) w) := by
  have AW := Lib.hid fun (w2 : World) (hb : Below w.heap.size w w2) => awake_any w2 (hE.below hb)
  have SH := Lib.hid (short_any op a b n p lv c q lw f)
  cases h : shB lv lw
  · rw [h] at SH
    exact grows_no op a b n p lv c q lw f u v w SH AW
  · rw [h] at SH
    obtain ⟨lo, hi, hlh, hle, hlo, hhi⟩ : ∃ lo hi : Nat, ((u ≤ v ∧ lo = u ∧ hi = v) ∨ (v < u ∧ lo = v ∧ hi = u)) ∧ lo ≤ hi ∧ lo < 18446744073709551616 ∧ hi < 18446744073709551616 := by
      rcases Nat.lt_or_ge v u with g | g
      · exact ⟨v, u, .inr ⟨g, rfl, rfl⟩, by omega, hv, hu⟩
      · exact ⟨u, v, .inl ⟨g, rfl, rfl⟩, g, hu, hv⟩
    have CH := Lib.hid fun (w2 : World) (hb : Below w.heap.size w w2) => check_any op a b n p lv c q lw f V W w2 (hV.on hb) (hW.on hb)
    have AL := Lib.hid fun (w2 : World) (hb : Below w.heap.size w w2) => at_any op a b n p lv c q lw f V W lo hlo w2 (hV.on hb) (hW.on hb)
    have AH := Lib.hid fun (w2 : World) (hb : Below w.heap.size w w2) => at_any op a b n p lv c q lw f V W hi hhi w2 (hV.on hb) (hW.on hb)
    have LE := Lib.hid fun (w2 : World) (hb : Below w.heap.size w w2) => least_any op a b n p lv c q lw f V W w2 (hV.on hb) (hW.on hb)
    have MO := Lib.hid fun (w2 : World) (hb : Below w.heap.size w w2) => most_any op a b n p lv c q lw f V W w2 (hV.on hb) (hW.on hb)
    have el : ((lo : Nat) : Int) = min (u : Int) v := by omega
    have eh : ((hi : Nat) : Int) = max (u : Int) v := by omega
    rw [el] at AL
    rw [eh] at AH
    unfold atV at AL AH
    by_cases h0 : errD op a b n lv lw V W = 0
    · have hA := acc_of h0
      unfold lstV at LE
      unfold mstV at MO
      rw [h0] at CH AL AH LE MO
      by_cases h4 : op = 4
      · subst h4
        exact grows_sum a b n p lv c q lw f u v w SH AW CH AL AH
      · have e1 : atB 0 op = true := by unfold atB; exact decide_eq_true ⟨rfl, h4⟩
        rw [e1, if_pos rfl] at AL AH
        have ex : ∀ z, extV 0 op a b n lv V W z = sglV op a b lv V W z := fun z => by unfold extV tkV; rw [if_pos rfl, if_neg h4, Int.one_mul]
        rw [ex] at LE MO
        exact grows_good op a b n p lv c q lw f (by rw [bne_iff_ne]; exact h4) u v _ _ _ _ (decide_eq_true (sgl_mono hA (Nat.zero_le _) hlo)) (decide_eq_true (sgl_mono hA hle hhi)) (decide_eq_true (sgl_mono hA (by omega) (by decide))) w SH AW CH AL AH LE MO
    · have e1 : atB (errD op a b n lv lw V W) op = false := by unfold atB; exact decide_eq_false (fun h => h0 h.1)
      rw [e1, if_neg (by decide)] at AL AH
      exact grows_bad op a b n p lv c q lw f _ (by rw [beq_eq_false_iff_ne]; exact h0) u v w SH AW CH AL AH
end Go.Proofs.YteapicfobammjaaDoor.Di
