/-
  The statement DistDraws, walked.
-/
import Derived.Test.YteapicfobammjaaDoorDLaw1
import Derived.Test.YteapicfobammjaaDoorDMono
namespace Go.Proofs.YteapicfobammjaaDoor.Di
open Go.RowKit
open St (nextU errS tri nextU_lt)
set_option maxHeartbeats 8000000
theorem draws_no (op a b n : Int) (p : Option Addr) (lv c : Nat) (q : Option Addr) (lw f : Nat) (k : Nat) (pos : Int) (anti : Bool) (w : World) (SH : Hid (∀ w2, Calls Tryd.prog 20 #[.agg #[.int .i64 op, .int .i64 a, .int .i64 b, .int .i64 n, .slice p lv c, .slice q lw f]] w2 (Gives (.bool false) w2))) (AW : Hid (∀ w2, Below w.heap.size w w2 → Calls Tryd.prog 21 #[] w2 (Gives (.bool true) w2))) : Calls Tryd.prog 7 #[.agg #[.int .i64 op, .int .i64 a, .int .i64 b, .int .i64 n, .slice p lv c, .slice q lw f], .agg #[.int .u64 (k : Nat), .int .i64 pos, .bool anti]] w (Gives (.bool true) w) := by
  go_enter Tryd.func7, Tryd.ntmps7
  go_wp2_with fail
  refine (SH.out _).mono ?_
  rintro e w1 ⟨rfl, hb1⟩
  go_wp2_with fail
  refine (AW.out _ (by (repeat (first | (with_reducible exact Below.refl _ _) | (with_reducible assumption) | (with_reducible apply bl_alloc) | (with_reducible apply bl_drewN) | (with_reducible apply bl_drew) | (with_reducible refine bl_set ?_ (by first | (simp; done) | (simp; omega)) _) | (with_reducible refine bl_call ?_ (by assumption)))))).mono ?_
  rintro e w2 ⟨rfl, hb2⟩
  go_wp2_with fail
  go_ret
  exact ⟨rfl, by (repeat (first | (with_reducible exact Below.refl _ _) | (with_reducible assumption) | (with_reducible apply bl_alloc) | (with_reducible apply bl_drewN) | (with_reducible apply bl_drew) | (with_reducible refine bl_set ?_ (by first | (simp; done) | (simp; omega)) _) | (with_reducible refine bl_call ?_ (by assumption))))⟩
/-- What lies in the two boxes of the arguments and in the box of a result. -/
theorem draws_bad (op a b n : Int) (p : Option Addr) (lv c : Nat) (q : Option Addr) (lw f : Nat) (k : Nat) (pos : Int) (anti : Bool) (v : Int) (K : Nat) (P : Int) (z : Bool) (E : Int) (hE : (E != 0) = true) (w : World) (SH : Hid (∀ w2, Calls Tryd.prog 20 #[.agg #[.int .i64 op, .int .i64 a, .int .i64 b, .int .i64 n, .slice p lv c, .slice q lw f]] w2 (Gives (.bool true) w2))) (AW : Hid (∀ w2, Below w.heap.size w w2 → Calls Tryd.prog 21 #[] w2 (Gives (.bool true) w2)))
    (DR : Hid (∀ w2, Below w.heap.size w w2 → Calls Tryd.prog 36 #[.agg #[.int .i64 op, .int .i64 a, .int .i64 b, .int .i64 n, .slice p lv c, .slice q lw f], .agg #[.int .u64 (k : Nat), .int .i64 pos, .bool anti]] w2 (Gives (.tuple #[.int .i64 v, .agg #[.int .u64 (K : Nat), .int .i64 P, .bool z], .int .i64 E]) w2))) (RD : Hid (∀ w2, Below w.heap.size w w2 → Calls Tryd.prog 37 #[.agg #[.int .i64 op, .int .i64 a, .int .i64 b, .int .i64 n, .slice p lv c, .slice q lw f], .agg #[.int .u64 (k : Nat), .int .i64 pos, .bool anti]] w2 (Gives (.tuple #[.int .i64 v, .agg #[.int .u64 (K : Nat), .int .i64 P, .bool z], .int .i64 E]) w2))) :
    Calls Tryd.prog 7 #[.agg #[.int .i64 op, .int .i64 a, .int .i64 b, .int .i64 n, .slice p lv c, .slice q lw f], .agg #[.int .u64 (k : Nat), .int .i64 pos, .bool anti]] w (Gives (.bool true) w) := by
  go_enter Tryd.func7, Tryd.ntmps7
  go_wp2_with fail
  refine (SH.out _).mono ?_
  rintro e w1 ⟨rfl, hb1⟩
  have D1 := six.on hb1 (six.alloc (o := (.cells #[.int .u64 (k : Nat), .int .i64 pos, .bool anti] 49)) (six.new (w := w) (t := 36)))
  have S1 : tri w1 (w.heap.size + 1) (.int .u64 (k : Nat)) (.int .i64 pos) (.bool anti) := St.tri.call (by refine ⟨?_, ?_, ?_, ?_, ?_, ?_, ?_⟩ <;> first | (go_simp; done) | (simp; done) | (simp; omega)) hb1
  obtain ⟨d0, d1, d2, d3, d4, d5, d6⟩ := D1
  have D1 : six _ _ _ _ _ _ _ _ := ⟨d0, d1, d2, d3, d4, d5, d6⟩
  obtain ⟨s0, s1, s2, s3, s4, s5, s6⟩ := S1
  have S1 : tri _ _ _ _ _ := ⟨s0, s1, s2, s3, s4, s5, s6⟩
  go_wp2_with fail
  refine (DR.out _ (by (repeat (first | (with_reducible exact Below.refl _ _) | (with_reducible assumption) | (with_reducible apply bl_alloc) | (with_reducible apply bl_drewN) | (with_reducible apply bl_drew) | (with_reducible refine bl_set ?_ (by first | (simp; done) | (simp; omega)) _) | (with_reducible refine bl_call ?_ (by assumption)))))).mono ?_
  rintro e w2 ⟨rfl, hb2⟩
  have D2 := six.alloc (o := .cells #[.int .u64 (K : Nat), .int .i64 P, .bool z] 49) (six.on hb2 D1)
  have S2 := St.tri.alloc (o := .cells #[.int .u64 (K : Nat), .int .i64 P, .bool z] 49) (St.tri.on hb2 S1)
  have R2 : tri (w2.alloc (.cells #[.int .u64 (K : Nat), .int .i64 P, .bool z] 49)) w2.heap.size (.int .u64 (K : Nat)) (.int .i64 P) (.bool z) := St.tri.new
  clear d0 d1 d2 d3 d4 d5 d6 s0 s1 s2 s3 s4 s5 s6
  obtain ⟨d0, d1, d2, d3, d4, d5, d6⟩ := D2
  have D2 : six _ _ _ _ _ _ _ _ := ⟨d0, d1, d2, d3, d4, d5, d6⟩
  obtain ⟨s0, s1, s2, s3, s4, s5, s6⟩ := S2
  have S2 : tri _ _ _ _ _ := ⟨s0, s1, s2, s3, s4, s5, s6⟩
  go_wp2_with fail
  refine (RD.out _ (by (repeat (first | (with_reducible exact Below.refl _ _) | (with_reducible assumption) | (with_reducible apply bl_alloc) | (with_reducible apply bl_drewN) | (with_reducible apply bl_drew) | (with_reducible refine bl_set ?_ (by first | (simp; done) | (simp; omega)) _) | (with_reducible refine bl_call ?_ (by assumption)))))).mono ?_
  rintro e w3 ⟨rfl, hb3⟩
  have D3 := six.alloc (o := .cells #[.int .u64 (K : Nat), .int .i64 P, .bool z] 49) (six.on hb3 D2)
  have R3 := St.tri.alloc (o := .cells #[.int .u64 (K : Nat), .int .i64 P, .bool z] 49) (St.tri.on hb3 R2)
  clear d0 d1 d2 d3 d4 d5 d6 s0 s1 s2 s3 s4 s5 s6
  obtain ⟨d0, d1, d2, d3, d4, d5, d6⟩ := D3
  have D3 : six _ _ _ _ _ _ _ _ := ⟨d0, d1, d2, d3, d4, d5, d6⟩
  obtain ⟨s0, s1, s2, s3, s4, s5, s6⟩ := R3
  have R3 : tri _ _ _ _ _ := ⟨s0, s1, s2, s3, s4, s5, s6⟩
  go_wp2_with fail
  refine (AW.out _ (by (repeat (first | (with_reducible exact Below.refl _ _) | (with_reducible assumption) | (with_reducible apply bl_alloc) | (with_reducible apply bl_drewN) | (with_reducible apply bl_drew) | (with_reducible refine bl_set ?_ (by first | (simp; done) | (simp; omega)) _) | (with_reducible refine bl_call ?_ (by assumption)))))).mono ?_
  rintro e w4 ⟨rfl, hb4⟩
  go_wp2_with fail
  go_ret
  exact ⟨rfl, by (repeat (first | (with_reducible exact Below.refl _ _) | (with_reducible assumption) | (with_reducible apply bl_alloc) | (with_reducible apply bl_drewN) | (with_reducible apply bl_drew) | (with_reducible refine bl_set ?_ (by first | (simp; done) | (simp; omega)) _) | (with_reducible refine bl_call ?_ (by assumption))))⟩
theorem draws_good (op a b n : Int) (p : Option Addr) (lv c : Nat) (q : Option Addr) (lw f : Nat) (k : Nat) (pos : Int) (anti : Bool) (v le mo : Int) (K : Nat) (P : Int) (z : Bool) (h1 : decide (le ≤ v) = true) (h2 : decide (v ≤ mo) = true) (w : World) (SH : Hid (∀ w2, Calls Tryd.prog 20 #[.agg #[.int .i64 op, .int .i64 a, .int .i64 b, .int .i64 n, .slice p lv c, .slice q lw f]] w2 (Gives (.bool true) w2))) (AW : Hid (∀ w2, Below w.heap.size w w2 → Calls Tryd.prog 21 #[] w2 (Gives (.bool true) w2)))
    (DR : Hid (∀ w2, Below w.heap.size w w2 → Calls Tryd.prog 36 #[.agg #[.int .i64 op, .int .i64 a, .int .i64 b, .int .i64 n, .slice p lv c, .slice q lw f], .agg #[.int .u64 (k : Nat), .int .i64 pos, .bool anti]] w2 (Gives (.tuple #[.int .i64 v, .agg #[.int .u64 (K : Nat), .int .i64 P, .bool z], .int .i64 0]) w2))) (RD : Hid (∀ w2, Below w.heap.size w w2 → Calls Tryd.prog 37 #[.agg #[.int .i64 op, .int .i64 a, .int .i64 b, .int .i64 n, .slice p lv c, .slice q lw f], .agg #[.int .u64 (k : Nat), .int .i64 pos, .bool anti]] w2 (Gives (.tuple #[.int .i64 v, .agg #[.int .u64 (K : Nat), .int .i64 P, .bool z], .int .i64 0]) w2)))
    (LE : Hid (∀ w2, Below w.heap.size w w2 → Calls Tryd.prog 32 #[.agg #[.int .i64 op, .int .i64 a, .int .i64 b, .int .i64 n, .slice p lv c, .slice q lw f]] w2 (Gives (.int .i64 le) w2))) (MO : Hid (∀ w2, Below w.heap.size w w2 → Calls Tryd.prog 34 #[.agg #[.int .i64 op, .int .i64 a, .int .i64 b, .int .i64 n, .slice p lv c, .slice q lw f]] w2 (Gives (.int .i64 mo) w2))) :
    Calls Tryd.prog 7 #[.agg #[.int .i64 op, .int .i64 a, .int .i64 b, .int .i64 n, .slice p lv c, .slice q lw f], .agg #[.int .u64 (k : Nat), .int .i64 pos, .bool anti]] w (Gives (.bool true) w) := by
  go_enter Tryd.func7, Tryd.ntmps7
  go_wp2_with fail
  refine (SH.out _).mono ?_
  rintro e w1 ⟨rfl, hb1⟩
  have D1 := six.on hb1 (six.alloc (o := (.cells #[.int .u64 (k : Nat), .int .i64 pos, .bool anti] 49)) (six.new (w := w) (t := 36)))
  have S1 : tri w1 (w.heap.size + 1) (.int .u64 (k : Nat)) (.int .i64 pos) (.bool anti) := St.tri.call (by refine ⟨?_, ?_, ?_, ?_, ?_, ?_, ?_⟩ <;> first | (go_simp; done) | (simp; done) | (simp; omega)) hb1
  obtain ⟨d0, d1, d2, d3, d4, d5, d6⟩ := D1
  have D1 : six _ _ _ _ _ _ _ _ := ⟨d0, d1, d2, d3, d4, d5, d6⟩
  obtain ⟨s0, s1, s2, s3, s4, s5, s6⟩ := S1
  have S1 : tri _ _ _ _ _ := ⟨s0, s1, s2, s3, s4, s5, s6⟩
  go_wp2_with fail
  refine (DR.out _ (by (repeat (first | (with_reducible exact Below.refl _ _) | (with_reducible assumption) | (with_reducible apply bl_alloc) | (with_reducible apply bl_drewN) | (with_reducible apply bl_drew) | (with_reducible refine bl_set ?_ (by first | (simp; done) | (simp; omega)) _) | (with_reducible refine bl_call ?_ (by assumption)))))).mono ?_
  rintro e w2 ⟨rfl, hb2⟩
  have D2 := six.alloc (o := .cells #[.int .u64 (K : Nat), .int .i64 P, .bool z] 49) (six.on hb2 D1)
  have S2 := St.tri.alloc (o := .cells #[.int .u64 (K : Nat), .int .i64 P, .bool z] 49) (St.tri.on hb2 S1)
  have R2 : tri (w2.alloc (.cells #[.int .u64 (K : Nat), .int .i64 P, .bool z] 49)) w2.heap.size (.int .u64 (K : Nat)) (.int .i64 P) (.bool z) := St.tri.new
  clear d0 d1 d2 d3 d4 d5 d6 s0 s1 s2 s3 s4 s5 s6
  obtain ⟨d0, d1, d2, d3, d4, d5, d6⟩ := D2
  have D2 : six _ _ _ _ _ _ _ _ := ⟨d0, d1, d2, d3, d4, d5, d6⟩
  obtain ⟨s0, s1, s2, s3, s4, s5, s6⟩ := S2
  have S2 : tri _ _ _ _ _ := ⟨s0, s1, s2, s3, s4, s5, s6⟩
  go_wp2_with fail
  refine (RD.out _ (by (repeat (first | (with_reducible exact Below.refl _ _) | (with_reducible assumption) | (with_reducible apply bl_alloc) | (with_reducible apply bl_drewN) | (with_reducible apply bl_drew) | (with_reducible refine bl_set ?_ (by first | (simp; done) | (simp; omega)) _) | (with_reducible refine bl_call ?_ (by assumption)))))).mono ?_
  rintro e w3 ⟨rfl, hb3⟩
  have D3 := six.alloc (o := .cells #[.int .u64 (K : Nat), .int .i64 P, .bool z] 49) (six.on hb3 D2)
  have R3 := St.tri.alloc (o := .cells #[.int .u64 (K : Nat), .int .i64 P, .bool z] 49) (St.tri.on hb3 R2)
  clear d0 d1 d2 d3 d4 d5 d6 s0 s1 s2 s3 s4 s5 s6
  obtain ⟨d0, d1, d2, d3, d4, d5, d6⟩ := D3
  have D3 : six _ _ _ _ _ _ _ _ := ⟨d0, d1, d2, d3, d4, d5, d6⟩
  obtain ⟨s0, s1, s2, s3, s4, s5, s6⟩ := R3
  have R3 : tri _ _ _ _ _ := ⟨s0, s1, s2, s3, s4, s5, s6⟩
  go_wp2_with fail
  refine (LE.out _ (by (repeat (first | (with_reducible exact Below.refl _ _) | (with_reducible assumption) | (with_reducible apply bl_alloc) | (with_reducible apply bl_drewN) | (with_reducible apply bl_drew) | (with_reducible refine bl_set ?_ (by first | (simp; done) | (simp; omega)) _) | (with_reducible refine bl_call ?_ (by assumption)))))).mono ?_
  rintro e w4 ⟨rfl, hb4⟩
  have D4 := six.on hb4 D3
  clear d0 d1 d2 d3 d4 d5 d6
  obtain ⟨d0, d1, d2, d3, d4, d5, d6⟩ := D4
  have D4 : six _ _ _ _ _ _ _ _ := ⟨d0, d1, d2, d3, d4, d5, d6⟩
  go_wp2_with fail
  refine (MO.out _ (by (repeat (first | (with_reducible exact Below.refl _ _) | (with_reducible assumption) | (with_reducible apply bl_alloc) | (with_reducible apply bl_drewN) | (with_reducible apply bl_drew) | (with_reducible refine bl_set ?_ (by first | (simp; done) | (simp; omega)) _) | (with_reducible refine bl_call ?_ (by assumption)))))).mono ?_
  rintro e w5 ⟨rfl, hb5⟩
  go_wp2_with fail
  refine (AW.out _ (by (repeat (first | (with_reducible exact Below.refl _ _) | (with_reducible assumption) | (with_reducible apply bl_alloc) | (with_reducible apply bl_drewN) | (with_reducible apply bl_drew) | (with_reducible refine bl_set ?_ (by first | (simp; done) | (simp; omega)) _) | (with_reducible refine bl_call ?_ (by assumption)))))).mono ?_
  rintro e w6 ⟨rfl, hb6⟩
  go_wp2_with fail
  go_ret
  exact ⟨rfl, by (repeat (first | (with_reducible exact Below.refl _ _) | (with_reducible assumption) | (with_reducible apply bl_alloc) | (with_reducible apply bl_drewN) | (with_reducible apply bl_drew) | (with_reducible refine bl_set ?_ (by first | (simp; done) | (simp; omega)) _) | (with_reducible refine bl_call ?_ (by assumption))))⟩
theorem distDraws_walk (op a b n : Int) (p : Option Addr) (lv c : Nat) (q : Option Addr) (lw f : Nat) (V W : Nat → Int) (k : Nat) (pos : Int) (anti : Bool) (w : World) (hE : Env w) (hV : Row w p lv V) (hW : Row w q lw W) : Calls Tryd.prog 7 #[.agg #[.int .i64 op, .int .i64 a, .int .i64 b, .int .i64 n, .slice p lv c, .slice q lw f], .agg #[.int .u64 (k : Nat), .int .i64 pos, .bool anti]] w (Gives (.bool true) w) := by
  have AW := Lib.hid fun (w2 : World) (hb : Below w.heap.size w w2) => awake_any w2 (hE.below hb)
  have SH := Lib.hid (short_any op a b n p lv c q lw f)
  cases h : shB lv lw
  · rw [h] at SH
    exact draws_no op a b n p lv c q lw f k pos anti w SH AW
  · rw [h] at SH
    have DR := Lib.hid fun (w2 : World) (hb : Below w.heap.size w w2) => draw_any op a b n p lv c q lw f V W k pos anti w2 (hV.on hb) (hW.on hb)
    have RD := Lib.hid fun (w2 : World) (hb : Below w.heap.size w w2) => rdraw_any op a b n p lv c q lw f V W k pos anti w2 (hV.on hb) (hW.on hb)
    by_cases hd : drwE (errD op a b n lv lw V W) pos op n = 0
    · have h0 : errD op a b n lv lw V W = 0 := by
        rcases Int.lt_trichotomy (errD op a b n lv lw V W) 0 with g | g | g
        · unfold drwE at hd; rw [if_neg (by omega)] at hd; exact hd
        · exact g
        · unfold drwE at hd; rw [if_neg (by omega)] at hd; exact hd
      have hb := draw_bounds (k := k) (anti := anti) (acc_of h0) h0 hd
      unfold drwR at DR RD
      rw [hd] at DR RD
      exact draws_good op a b n p lv c q lw f k pos anti _ _ _ _ _ _ (decide_eq_true hb.1) (decide_eq_true hb.2) w SH AW DR RD (Lib.hid fun w2 hb => least_any op a b n p lv c q lw f V W w2 (hV.on hb) (hW.on hb)) (Lib.hid fun w2 hb => most_any op a b n p lv c q lw f V W w2 (hV.on hb) (hW.on hb))
    · exact draws_bad op a b n p lv c q lw f k pos anti _ _ _ _ _ (by rw [bne_iff_ne]; exact hd) w SH AW DR RD
end Go.Proofs.YteapicfobammjaaDoor.Di
