/-
  The statements DistValues, DistDraws, DistSteps, walked.
-/
import Derived.Test.YteapicfobammjaaDoorDAwakeA
import Derived.Test.YteapicfobammjaaDoorDRefDraw2
namespace Go.Proofs.YteapicfobammjaaDoor.Di
open Go.RowKit
open St (nextU errS tri nextU_lt)
set_option maxHeartbeats 8000000
def shB (lv lw : Nat) : Bool := decide (lv ≤ 100) && decide (lw ≤ 100)
theorem short_any (op a b n : Int) (p : Option Addr) (lv c : Nat) (q : Option Addr) (lw f : Nat) (w : World) : Calls Tryd.prog 20 #[.agg #[.int .i64 op, .int .i64 a, .int .i64 b, .int .i64 n, .slice p lv c, .slice q lw f]] w (Gives (.bool (shB lv lw)) w) := by
  unfold shB
  by_cases h : lv ≤ 100
  · have h1 : decide ((lv : Int) ≤ 100) = true := decide_eq_true (by omega)
    by_cases h2 : lw ≤ 100
    · have h3 : decide ((lw : Int) ≤ 100) = true := decide_eq_true (by omega)
      rw [decide_eq_true h, decide_eq_true h2]
      clear h h2
      go_enter Tryd.func20, Tryd.ntmps20
      go_wp2_with fail
      go_ret
      exact ⟨rfl, by (repeat (first | (with_reducible exact Below.refl _ _) | (with_reducible assumption) | (with_reducible apply bl_alloc) | (with_reducible apply bl_drewN) | (with_reducible apply bl_drew) | (with_reducible refine bl_set ?_ (by first | (simp; done) | (simp; omega)) _) | (with_reducible refine bl_call ?_ (by assumption))))⟩
    · have h3 : decide ((lw : Int) ≤ 100) = false := decide_eq_false (by omega)
      rw [decide_eq_true h, decide_eq_false h2]
      clear h h2
      go_enter Tryd.func20, Tryd.ntmps20
      go_wp2_with fail
      go_ret
      exact ⟨rfl, by (repeat (first | (with_reducible exact Below.refl _ _) | (with_reducible assumption) | (with_reducible apply bl_alloc) | (with_reducible apply bl_drewN) | (with_reducible apply bl_drew) | (with_reducible refine bl_set ?_ (by first | (simp; done) | (simp; omega)) _) | (with_reducible refine bl_call ?_ (by assumption))))⟩
  · have h1 : decide ((lv : Int) ≤ 100) = false := decide_eq_false (by omega)
    rw [decide_eq_false h, Bool.false_and]
    clear h
    go_enter Tryd.func20, Tryd.ntmps20
    go_wp2_with fail
    go_ret
    exact ⟨rfl, by (repeat (first | (with_reducible exact Below.refl _ _) | (with_reducible assumption) | (with_reducible apply bl_alloc) | (with_reducible apply bl_drewN) | (with_reducible apply bl_drew) | (with_reducible refine bl_set ?_ (by first | (simp; done) | (simp; omega)) _) | (with_reducible refine bl_call ?_ (by assumption))))⟩
theorem values_no (op a b n : Int) (p : Option Addr) (lv c : Nat) (q : Option Addr) (lw f : Nat) (u : Nat) (w : World) (SH : Hid (∀ w2, Calls Tryd.prog 20 #[.agg #[.int .i64 op, .int .i64 a, .int .i64 b, .int .i64 n, .slice p lv c, .slice q lw f]] w2 (Gives (.bool false) w2))) (AW : Hid (∀ w2, Below w.heap.size w w2 → Calls Tryd.prog 21 #[] w2 (Gives (.bool true) w2))) : Calls Tryd.prog 6 #[.agg #[.int .i64 op, .int .i64 a, .int .i64 b, .int .i64 n, .slice p lv c, .slice q lw f], .int .u64 u] w (Gives (.bool true) w) := by
  go_enter Tryd.func6, Tryd.ntmps6
  go_wp2_with fail
  refine (SH.out _).mono ?_
  rintro e w1 ⟨rfl, hb1⟩
  go_wp2_with fail
  refine (AW.out _ (by (repeat (first | (with_reducible exact Below.refl _ _) | (with_reducible assumption) | (with_reducible apply bl_alloc) | (with_reducible apply bl_drewN) | (with_reducible apply bl_drew) | (with_reducible refine bl_set ?_ (by first | (simp; done) | (simp; omega)) _) | (with_reducible refine bl_call ?_ (by assumption)))))).mono ?_
  rintro e w2 ⟨rfl, hb2⟩
  go_wp2_with fail
  go_ret
  exact ⟨rfl, by (repeat (first | (with_reducible exact Below.refl _ _) | (with_reducible assumption) | (with_reducible apply bl_alloc) | (with_reducible apply bl_drewN) | (with_reducible apply bl_drew) | (with_reducible refine bl_set ?_ (by first | (simp; done) | (simp; omega)) _) | (with_reducible refine bl_call ?_ (by assumption))))⟩
theorem values_yes (op a b n : Int) (p : Option Addr) (lv c : Nat) (q : Option Addr) (lw f : Nat) (u : Nat) (v le mo : Int) (o : Bool) (w : World) (SH : Hid (∀ w2, Calls Tryd.prog 20 #[.agg #[.int .i64 op, .int .i64 a, .int .i64 b, .int .i64 n, .slice p lv c, .slice q lw f]] w2 (Gives (.bool true) w2))) (AW : Hid (∀ w2, Below w.heap.size w w2 → Calls Tryd.prog 21 #[] w2 (Gives (.bool true) w2)))
    (AT : Hid (∀ w2, Below w.heap.size w w2 → Calls Tryd.prog 30 #[.agg #[.int .i64 op, .int .i64 a, .int .i64 b, .int .i64 n, .slice p lv c, .slice q lw f], .int .u64 u] w2 (Gives (.tuple #[.int .i64 v, .bool o]) w2))) (RT : Hid (∀ w2, Below w.heap.size w w2 → Calls Tryd.prog 31 #[.agg #[.int .i64 op, .int .i64 a, .int .i64 b, .int .i64 n, .slice p lv c, .slice q lw f], .int .u64 u] w2 (Gives (.tuple #[.int .i64 v, .bool o]) w2)))
    (LE : Hid (∀ w2, Below w.heap.size w w2 → Calls Tryd.prog 32 #[.agg #[.int .i64 op, .int .i64 a, .int .i64 b, .int .i64 n, .slice p lv c, .slice q lw f]] w2 (Gives (.int .i64 le) w2))) (RL : Hid (∀ w2, Below w.heap.size w w2 → Calls Tryd.prog 33 #[.agg #[.int .i64 op, .int .i64 a, .int .i64 b, .int .i64 n, .slice p lv c, .slice q lw f]] w2 (Gives (.int .i64 le) w2)))
    (MO : Hid (∀ w2, Below w.heap.size w w2 → Calls Tryd.prog 34 #[.agg #[.int .i64 op, .int .i64 a, .int .i64 b, .int .i64 n, .slice p lv c, .slice q lw f]] w2 (Gives (.int .i64 mo) w2))) (RM : Hid (∀ w2, Below w.heap.size w w2 → Calls Tryd.prog 35 #[.agg #[.int .i64 op, .int .i64 a, .int .i64 b, .int .i64 n, .slice p lv c, .slice q lw f]] w2 (Gives (.int .i64 mo) w2))) :
    Calls Tryd.prog 6 #[.agg #[.int .i64 op, .int .i64 a, .int .i64 b, .int .i64 n, .slice p lv c, .slice q lw f], .int .u64 u] w (Gives (.bool true) w) := by
  go_enter Tryd.func6, Tryd.ntmps6
  go_wp2_with fail
  refine (SH.out _).mono ?_
  rintro e w1 ⟨rfl, hb1⟩
  have D1 := six.on hb1 (six.new (w := w) (t := 36))
  obtain ⟨d0, d1, d2, d3, d4, d5, d6⟩ := D1
  have D1 : six _ _ _ _ _ _ _ _ := ⟨d0, d1, d2, d3, d4, d5, d6⟩
  go_wp2_with fail
  refine (AT.out _ (by (repeat (first | (with_reducible exact Below.refl _ _) | (with_reducible assumption) | (with_reducible apply bl_alloc) | (with_reducible apply bl_drewN) | (with_reducible apply bl_drew) | (with_reducible refine bl_set ?_ (by first | (simp; done) | (simp; omega)) _) | (with_reducible refine bl_call ?_ (by assumption)))))).mono ?_
  rintro e w2 ⟨rfl, hb2⟩
  have D2 := six.on hb2 D1
  clear d0 d1 d2 d3 d4 d5 d6
  obtain ⟨d0, d1, d2, d3, d4, d5, d6⟩ := D2
  have D2 : six _ _ _ _ _ _ _ _ := ⟨d0, d1, d2, d3, d4, d5, d6⟩
  go_wp2_with fail
  refine (RT.out _ (by (repeat (first | (with_reducible exact Below.refl _ _) | (with_reducible assumption) | (with_reducible apply bl_alloc) | (with_reducible apply bl_drewN) | (with_reducible apply bl_drew) | (with_reducible refine bl_set ?_ (by first | (simp; done) | (simp; omega)) _) | (with_reducible refine bl_call ?_ (by assumption)))))).mono ?_
  rintro e w3 ⟨rfl, hb3⟩
  have D3 := six.on hb3 D2
  clear d0 d1 d2 d3 d4 d5 d6
  obtain ⟨d0, d1, d2, d3, d4, d5, d6⟩ := D3
  have D3 : six _ _ _ _ _ _ _ _ := ⟨d0, d1, d2, d3, d4, d5, d6⟩
  go_wp2_with fail
  go_region_held3 (fun w' => w'.cell? ⟨w.heap.size, 0, none⟩ = some (.int .i64 op) ∧ w'.cell? ⟨w.heap.size, 1, none⟩ = some (.int .i64 a) ∧ w'.cell? ⟨w.heap.size, 2, none⟩ = some (.int .i64 b) ∧ w'.cell? ⟨w.heap.size, 3, none⟩ = some (.int .i64 n) ∧ w'.cell? ⟨w.heap.size, 4, none⟩ = some (.slice p lv c) ∧ w'.cell? ⟨w.heap.size, 5, none⟩ = some (.slice q lw f)) (first | (with_reducible exact six.keep D8) | (with_reducible exact six.keep D7) | (with_reducible exact six.keep D6) | (with_reducible exact six.keep D5) | (with_reducible exact six.keep D4) | (with_reducible exact six.keep D3.drew) | (with_reducible exact six.keep D3) | (go_keep; done))
    (first
      | (go_at_call 32; refine (LE.out _ (by (repeat (first | (with_reducible exact Below.refl _ _) | (with_reducible assumption) | (with_reducible apply bl_alloc) | (with_reducible apply bl_drewN) | (with_reducible apply bl_drew) | (with_reducible refine bl_set ?_ (by first | (simp; done) | (simp; omega)) _) | (with_reducible refine bl_call ?_ (by assumption)))))).mono ?_; rintro e w4 ⟨rfl, hb4⟩; have D4 := six.on hb4 D3.drew)
      | (go_at_call 33; refine (RL.out _ (by (repeat (first | (with_reducible exact Below.refl _ _) | (with_reducible assumption) | (with_reducible apply bl_alloc) | (with_reducible apply bl_drewN) | (with_reducible apply bl_drew) | (with_reducible refine bl_set ?_ (by first | (simp; done) | (simp; omega)) _) | (with_reducible refine bl_call ?_ (by assumption)))))).mono ?_; rintro e w5 ⟨rfl, hb5⟩; have D5 := six.on hb5 D4)
      | (go_at_call 34; refine (MO.out _ (by (repeat (first | (with_reducible exact Below.refl _ _) | (with_reducible assumption) | (with_reducible apply bl_alloc) | (with_reducible apply bl_drewN) | (with_reducible apply bl_drew) | (with_reducible refine bl_set ?_ (by first | (simp; done) | (simp; omega)) _) | (with_reducible refine bl_call ?_ (by assumption)))))).mono ?_; rintro e w6 ⟨rfl, hb6⟩; have D6 := six.on hb6 D5)
      | (go_at_call 35; refine (RM.out _ (by (repeat (first | (with_reducible exact Below.refl _ _) | (with_reducible assumption) | (with_reducible apply bl_alloc) | (with_reducible apply bl_drewN) | (with_reducible apply bl_drew) | (with_reducible refine bl_set ?_ (by first | (simp; done) | (simp; omega)) _) | (with_reducible refine bl_call ?_ (by assumption)))))).mono ?_; rintro e w7 ⟨rfl, hb7⟩; have D7 := six.on hb7 D6)
      | (go_at_call 21; refine (AW.out _ (by (repeat (first | (with_reducible exact Below.refl _ _) | (with_reducible assumption) | (with_reducible apply bl_alloc) | (with_reducible apply bl_drewN) | (with_reducible apply bl_drew) | (with_reducible refine bl_set ?_ (by first | (simp; done) | (simp; omega)) _) | (with_reducible refine bl_call ?_ (by assumption)))))).mono ?_; rintro e w8 ⟨rfl, hb8⟩; have D8 := six.on hb8 D7))
  all_goals
    go_wp2_with fail
    go_ret
    exact ⟨rfl, by (repeat (first | (with_reducible exact Below.refl _ _) | (with_reducible assumption) | (with_reducible apply bl_alloc) | (with_reducible apply bl_drewN) | (with_reducible apply bl_drew) | (with_reducible refine bl_set ?_ (by first | (simp; done) | (simp; omega)) _) | (with_reducible refine bl_call ?_ (by assumption))))⟩
theorem distValues_walk (op a b n : Int) (p : Option Addr) (lv c : Nat) (q : Option Addr) (lw f : Nat) (V W : Nat → Int) (u : Nat) (hu : u < 18446744073709551616) (w : World) (hE : Env w) (hV : Row w p lv V) (hW : Row w q lw W) : Calls Tryd.prog 6 #[.agg #[.int .i64 op, .int .i64 a, .int .i64 b, .int .i64 n, .slice p lv c, .slice q lw f], .int .u64 u] w (Gives (.bool true) w) := by
  have AW := Lib.hid fun (w2 : World) (hb : Below w.heap.size w w2) => awake_any w2 (hE.below hb)
  have SH := Lib.hid (short_any op a b n p lv c q lw f)
  cases h : shB lv lw
  · rw [h] at SH
    exact values_no op a b n p lv c q lw f u w SH AW
  · rw [h] at SH
    exact values_yes op a b n p lv c q lw f u _ _ _ _ w SH AW (Lib.hid fun w2 hb => at_any op a b n p lv c q lw f V W u hu w2 (hV.on hb) (hW.on hb)) (Lib.hid fun w2 hb => rat_any op a b n p lv c q lw f V W u hu w2 (hV.on hb) (hW.on hb))
      (Lib.hid fun w2 hb => least_any op a b n p lv c q lw f V W w2 (hV.on hb) (hW.on hb)) (Lib.hid fun w2 hb => rleast_any op a b n p lv c q lw f V W w2 (hV.on hb) (hW.on hb))
      (Lib.hid fun w2 hb => most_any op a b n p lv c q lw f V W w2 (hV.on hb) (hW.on hb)) (Lib.hid fun w2 hb => rmost_any op a b n p lv c q lw f V W w2 (hV.on hb) (hW.on hb))
end Go.Proofs.YteapicfobammjaaDoor.Di
