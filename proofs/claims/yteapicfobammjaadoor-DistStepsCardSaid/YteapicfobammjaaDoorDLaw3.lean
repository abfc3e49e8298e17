/-
  The statement DistSteps, walked.
-/
import Derived.Test.YteapicfobammjaaDoorDLaw1
import Derived.Test.YteapicfobammjaaDoorDDraw3
namespace Go.Proofs.YteapicfobammjaaDoor.Di
open Go.RowKit
open St (nextU errS tri nextU_lt)
set_option maxHeartbeats 8000000
theorem steps_no (op a b n : Int) (p : Option Addr) (lv c : Nat) (q : Option Addr) (lw f : Nat) (k : Nat) (pos : Int) (anti : Bool) (w : World) (SH : Hid (∀ w2, Calls Tryd.prog 20 #[.agg #[.int .i64 op, .int .i64 a, .int .i64 b, .int .i64 n, .slice p lv c, .slice q lw f]] w2 (Gives (.bool false) w2))) (AW : Hid (∀ w2, Below w.heap.size w w2 → Calls Tryd.prog 21 #[] w2 (Gives (.bool true) w2))) : Calls Tryd.prog 10 #[.agg #[.int .i64 op, .int .i64 a, .int .i64 b, .int .i64 n, .slice p lv c, .slice q lw f], .agg #[.int .u64 (k : Nat), .int .i64 pos, .bool anti]] w (Gives (.bool true) w) := by
  go_enter Tryd.func10, Tryd.ntmps10
  go_wp2_with fail
  refine (SH.out _).mono ?_
  rintro e w1 ⟨rfl, hb1⟩
  go_wp2_with fail
  refine (AW.out _ (by (repeat (first | (with_reducible exact Below.refl _ _) | (with_reducible assumption) | (with_reducible apply bl_alloc) | (with_reducible apply bl_drewN) | (with_reducible apply bl_drew) | (with_reducible refine bl_set ?_ (by first | (simp; done) | (simp; omega)) _) | (with_reducible refine bl_call ?_ (by assumption)))))).mono ?_
  rintro e w2 ⟨rfl, hb2⟩
  go_wp2_with fail
  go_ret
  exact ⟨rfl, by (repeat (first | (with_reducible exact Below.refl _ _) | (with_reducible assumption) | (with_reducible apply bl_alloc) | (with_reducible apply bl_drewN) | (with_reducible apply bl_drew) | (with_reducible refine bl_set ?_ (by first | (simp; done) | (simp; omega)) _) | (with_reducible refine bl_call ?_ (by assumption))))⟩
theorem steps_bad (op a b n : Int) (p : Option Addr) (lv c : Nat) (q : Option Addr) (lw f : Nat) (k : Nat) (pos : Int) (anti : Bool) (E : Int) (hE : (E != 0) = true) (w : World) (SH : Hid (∀ w2, Calls Tryd.prog 20 #[.agg #[.int .i64 op, .int .i64 a, .int .i64 b, .int .i64 n, .slice p lv c, .slice q lw f]] w2 (Gives (.bool true) w2))) (AW : Hid (∀ w2, Below w.heap.size w w2 → Calls Tryd.prog 21 #[] w2 (Gives (.bool true) w2)))
    (DR : Hid (∀ w2, Below w.heap.size w w2 → Calls Tryd.prog 36 #[.agg #[.int .i64 op, .int .i64 a, .int .i64 b, .int .i64 n, .slice p lv c, .slice q lw f], .agg #[.int .u64 (k : Nat), .int .i64 pos, .bool anti]] w2 (Gives (.tuple #[.int .i64 0, .agg #[.int .u64 0, .int .i64 0, .bool false], .int .i64 E]) w2))) :
    Calls Tryd.prog 10 #[.agg #[.int .i64 op, .int .i64 a, .int .i64 b, .int .i64 n, .slice p lv c, .slice q lw f], .agg #[.int .u64 (k : Nat), .int .i64 pos, .bool anti]] w (Gives (.bool true) w) := by
  go_enter Tryd.func10, Tryd.ntmps10
  go_wp2_with fail
  refine (SH.out _).mono ?_
  rintro e w1 ⟨rfl, hb1⟩
  have D1 := six.on hb1 (six.alloc (o := (.cells #[.int .u64 (k : Nat), .int .i64 pos, .bool anti] 49)) (six.new (w := w) (t := 36)))
  have S1 : tri w1 (w.heap.size + 1) (.int .u64 (k : Nat)) (.int .i64 pos) (.bool anti) := St.tri.call (by refine ⟨?_, ?_, ?_, ?_, ?_, ?_, ?_⟩ <;> first | (go_simp; done) | (simp; done) | (simp; omega)) hb1
  obtain ⟨d0, d1, d2, d3, d4, d5, d6⟩ := D1
  have D1 : six _ _ _ _ _ _ _ _ := ⟨d0, d1, d2, d3, d4, d5, d6⟩
  obtain ⟨s0, s1, s2, s3, s4, s5, s6⟩ := S1
  have S1 : tri _ _ _ _ _ := ⟨s0, s1, s2, s3, s4, s5, s6⟩
  go_wp2_with fail
  refine (DR.out _ (by (repeat (first | (with_reducible exact Below.refl _ _) | (with_reducible assumption) | (with_reducible apply bl_alloc) | (with_reducible apply bl_drewN) | (with_reducible apply bl_drew) | (with_reducible refine bl_set ?_ (by first | (simp; done) | (simp; omega)) _) | (with_reducible refine bl_call ?_ (by assumption)))))).mono ?_
  rintro e w2 ⟨rfl, hb2⟩
  have D2 := six.alloc (o := .cells #[.int .u64 0, .int .i64 0, .bool false] 49) (six.on hb2 D1)
  have S2 := St.tri.alloc (o := .cells #[.int .u64 0, .int .i64 0, .bool false] 49) (St.tri.on hb2 S1)
  have R2 : tri (w2.alloc (.cells #[.int .u64 0, .int .i64 0, .bool false] 49)) w2.heap.size (.int .u64 0) (.int .i64 0) (.bool false) := St.tri.new
  clear d0 d1 d2 d3 d4 d5 d6 s0 s1 s2 s3 s4 s5 s6
  obtain ⟨s0, s1, s2, s3, s4, s5, s6⟩ := R2
  have R2 : tri _ _ _ _ _ := ⟨s0, s1, s2, s3, s4, s5, s6⟩
  go_wp2_with fail
  refine (AW.out _ (by (repeat (first | (with_reducible exact Below.refl _ _) | (with_reducible assumption) | (with_reducible apply bl_alloc) | (with_reducible apply bl_drewN) | (with_reducible apply bl_drew) | (with_reducible refine bl_set ?_ (by first | (simp; done) | (simp; omega)) _) | (with_reducible refine bl_call ?_ (by assumption)))))).mono ?_
  rintro e w4 ⟨rfl, hb4⟩
  go_wp2_with fail
  go_ret
  exact ⟨rfl, by (repeat (first | (with_reducible exact Below.refl _ _) | (with_reducible assumption) | (with_reducible apply bl_alloc) | (with_reducible apply bl_drewN) | (with_reducible apply bl_drew) | (with_reducible refine bl_set ?_ (by first | (simp; done) | (simp; omega)) _) | (with_reducible refine bl_call ?_ (by assumption))))⟩
theorem steps_sum (a b n : Int) (p : Option Addr) (lv c : Nat) (q : Option Addr) (lw f : Nat) (k : Nat) (pos : Int) (anti : Bool) (v P : Int) (wp : IntKind.i64.wrap (P - pos) = n) (w : World) (SH : Hid (∀ w2, Calls Tryd.prog 20 #[.agg #[.int .i64 4, .int .i64 a, .int .i64 b, .int .i64 n, .slice p lv c, .slice q lw f]] w2 (Gives (.bool true) w2))) (AW : Hid (∀ w2, Below w.heap.size w w2 → Calls Tryd.prog 21 #[] w2 (Gives (.bool true) w2)))
    (DR : Hid (∀ w2, Below w.heap.size w w2 → Calls Tryd.prog 36 #[.agg #[.int .i64 4, .int .i64 a, .int .i64 b, .int .i64 n, .slice p lv c, .slice q lw f], .agg #[.int .u64 (k : Nat), .int .i64 pos, .bool anti]] w2 (Gives (.tuple #[.int .i64 v, .agg #[.int .u64 (k : Nat), .int .i64 P, .bool anti], .int .i64 0]) w2))) :
    Calls Tryd.prog 10 #[.agg #[.int .i64 4, .int .i64 a, .int .i64 b, .int .i64 n, .slice p lv c, .slice q lw f], .agg #[.int .u64 (k : Nat), .int .i64 pos, .bool anti]] w (Gives (.bool true) w) := by
  go_enter Tryd.func10, Tryd.ntmps10
  go_wp2_with fail
  refine (SH.out _).mono ?_
  rintro e w1 ⟨rfl, hb1⟩
  have D1 := six.on hb1 (six.alloc (o := (.cells #[.int .u64 (k : Nat), .int .i64 pos, .bool anti] 49)) (six.new (w := w) (t := 36)))
  have S1 : tri w1 (w.heap.size + 1) (.int .u64 (k : Nat)) (.int .i64 pos) (.bool anti) := St.tri.call (by refine ⟨?_, ?_, ?_, ?_, ?_, ?_, ?_⟩ <;> first | (go_simp; done) | (simp; done) | (simp; omega)) hb1
  obtain ⟨d0, d1, d2, d3, d4, d5, d6⟩ := D1
  have D1 : six _ _ _ _ _ _ _ _ := ⟨d0, d1, d2, d3, d4, d5, d6⟩
  obtain ⟨s0, s1, s2, s3, s4, s5, s6⟩ := S1
  have S1 : tri _ _ _ _ _ := ⟨s0, s1, s2, s3, s4, s5, s6⟩
  go_wp2_with fail
  refine (DR.out _ (by (repeat (first | (with_reducible exact Below.refl _ _) | (with_reducible assumption) | (with_reducible apply bl_alloc) | (with_reducible apply bl_drewN) | (with_reducible apply bl_drew) | (with_reducible refine bl_set ?_ (by first | (simp; done) | (simp; omega)) _) | (with_reducible refine bl_call ?_ (by assumption)))))).mono ?_
  rintro e w2 ⟨rfl, hb2⟩
  have D2 := six.alloc (o := .cells #[.int .u64 (k : Nat), .int .i64 P, .bool anti] 49) (six.on hb2 D1)
  have S2 := St.tri.alloc (o := .cells #[.int .u64 (k : Nat), .int .i64 P, .bool anti] 49) (St.tri.on hb2 S1)
  have R2 : tri (w2.alloc (.cells #[.int .u64 (k : Nat), .int .i64 P, .bool anti] 49)) w2.heap.size (.int .u64 (k : Nat)) (.int .i64 P) (.bool anti) := St.tri.new
  clear d0 d1 d2 d3 d4 d5 d6 s0 s1 s2 s3 s4 s5 s6
  obtain ⟨d0, d1, d2, d3, d4, d5, d6⟩ := D2
  have D2 : six _ _ _ _ _ _ _ _ := ⟨d0, d1, d2, d3, d4, d5, d6⟩
  obtain ⟨s0, s1, s2, s3, s4, s5, s6⟩ := S2
  have S2 : tri _ _ _ _ _ := ⟨s0, s1, s2, s3, s4, s5, s6⟩
  go_wp2_with fail
  refine (DR.out _ (by (repeat (first | (with_reducible exact Below.refl _ _) | (with_reducible assumption) | (with_reducible apply bl_alloc) | (with_reducible apply bl_drewN) | (with_reducible apply bl_drew) | (with_reducible refine bl_set ?_ (by first | (simp; done) | (simp; omega)) _) | (with_reducible refine bl_call ?_ (by assumption)))))).mono ?_
  rintro e w3 ⟨rfl, hb3⟩
  have R3 := St.tri.alloc (o := .cells #[.int .u64 (k : Nat), .int .i64 P, .bool anti] 49) (St.tri.on hb3 R2)
  have S3 := St.tri.alloc (o := .cells #[.int .u64 (k : Nat), .int .i64 P, .bool anti] 49) (St.tri.on hb3 S2)
  clear d0 d1 d2 d3 d4 d5 d6 s0 s1 s2 s3 s4 s5 s6
  obtain ⟨r0, r1, r2, r3, r4, r5, r6⟩ := R3
  have R3 : tri _ _ _ _ _ := ⟨r0, r1, r2, r3, r4, r5, r6⟩
  obtain ⟨s0, s1, s2, s3, s4, s5, s6⟩ := S3
  have S3 : tri _ _ _ _ _ := ⟨s0, s1, s2, s3, s4, s5, s6⟩
  go_wp2_with fail
  refine (AW.out _ (by (repeat (first | (with_reducible exact Below.refl _ _) | (with_reducible assumption) | (with_reducible apply bl_alloc) | (with_reducible apply bl_drewN) | (with_reducible apply bl_drew) | (with_reducible refine bl_set ?_ (by first | (simp; done) | (simp; omega)) _) | (with_reducible refine bl_call ?_ (by assumption)))))).mono ?_
  rintro e w4 ⟨rfl, hb4⟩
  go_wp2_with fail
  go_ret
  exact ⟨rfl, by (repeat (first | (with_reducible exact Below.refl _ _) | (with_reducible assumption) | (with_reducible apply bl_alloc) | (with_reducible apply bl_drewN) | (with_reducible apply bl_drew) | (with_reducible refine bl_set ?_ (by first | (simp; done) | (simp; omega)) _) | (with_reducible refine bl_call ?_ (by assumption))))⟩
theorem steps_one (op a b n : Int) (p : Option Addr) (lv c : Nat) (q : Option Addr) (lw f : Nat) (h4 : (op == 4) = false) (k : Nat) (pos : Int) (anti : Bool) (v P : Int) (wp : IntKind.i64.wrap (P - pos) = 1) (w : World) (SH : Hid (∀ w2, Calls Tryd.prog 20 #[.agg #[.int .i64 op, .int .i64 a, .int .i64 b, .int .i64 n, .slice p lv c, .slice q lw f]] w2 (Gives (.bool true) w2))) (AW : Hid (∀ w2, Below w.heap.size w w2 → Calls Tryd.prog 21 #[] w2 (Gives (.bool true) w2)))
    (DR : Hid (∀ w2, Below w.heap.size w w2 → Calls Tryd.prog 36 #[.agg #[.int .i64 op, .int .i64 a, .int .i64 b, .int .i64 n, .slice p lv c, .slice q lw f], .agg #[.int .u64 (k : Nat), .int .i64 pos, .bool anti]] w2 (Gives (.tuple #[.int .i64 v, .agg #[.int .u64 (k : Nat), .int .i64 P, .bool anti], .int .i64 0]) w2))) :
    Calls Tryd.prog 10 #[.agg #[.int .i64 op, .int .i64 a, .int .i64 b, .int .i64 n, .slice p lv c, .slice q lw f], .agg #[.int .u64 (k : Nat), .int .i64 pos, .bool anti]] w (Gives (.bool true) w) := by
  go_enter Tryd.func10, Tryd.ntmps10
  go_wp2_with fail
  refine (SH.out _).mono ?_
  rintro e w1 ⟨rfl, hb1⟩
  have D1 := six.on hb1 (six.alloc (o := (.cells #[.int .u64 (k : Nat), .int .i64 pos, .bool anti] 49)) (six.new (w := w) (t := 36)))
  have S1 : tri w1 (w.heap.size + 1) (.int .u64 (k : Nat)) (.int .i64 pos) (.bool anti) := St.tri.call (by refine ⟨?_, ?_, ?_, ?_, ?_, ?_, ?_⟩ <;> first | (go_simp; done) | (simp; done) | (simp; omega)) hb1
  obtain ⟨d0, d1, d2, d3, d4, d5, d6⟩ := D1
  have D1 : six _ _ _ _ _ _ _ _ := ⟨d0, d1, d2, d3, d4, d5, d6⟩
  obtain ⟨s0, s1, s2, s3, s4, s5, s6⟩ := S1
  have S1 : tri _ _ _ _ _ := ⟨s0, s1, s2, s3, s4, s5, s6⟩
  go_wp2_with fail
  refine (DR.out _ (by (repeat (first | (with_reducible exact Below.refl _ _) | (with_reducible assumption) | (with_reducible apply bl_alloc) | (with_reducible apply bl_drewN) | (with_reducible apply bl_drew) | (with_reducible refine bl_set ?_ (by first | (simp; done) | (simp; omega)) _) | (with_reducible refine bl_call ?_ (by assumption)))))).mono ?_
  rintro e w2 ⟨rfl, hb2⟩
  have D2 := six.alloc (o := .cells #[.int .u64 (k : Nat), .int .i64 P, .bool anti] 49) (six.on hb2 D1)
  have S2 := St.tri.alloc (o := .cells #[.int .u64 (k : Nat), .int .i64 P, .bool anti] 49) (St.tri.on hb2 S1)
  have R2 : tri (w2.alloc (.cells #[.int .u64 (k : Nat), .int .i64 P, .bool anti] 49)) w2.heap.size (.int .u64 (k : Nat)) (.int .i64 P) (.bool anti) := St.tri.new
  clear d0 d1 d2 d3 d4 d5 d6 s0 s1 s2 s3 s4 s5 s6
  obtain ⟨d0, d1, d2, d3, d4, d5, d6⟩ := D2
  have D2 : six _ _ _ _ _ _ _ _ := ⟨d0, d1, d2, d3, d4, d5, d6⟩
  obtain ⟨s0, s1, s2, s3, s4, s5, s6⟩ := S2
  have S2 : tri _ _ _ _ _ := ⟨s0, s1, s2, s3, s4, s5, s6⟩
  go_wp2_with fail
  refine (DR.out _ (by (repeat (first | (with_reducible exact Below.refl _ _) | (with_reducible assumption) | (with_reducible apply bl_alloc) | (with_reducible apply bl_drewN) | (with_reducible apply bl_drew) | (with_reducible refine bl_set ?_ (by first | (simp; done) | (simp; omega)) _) | (with_reducible refine bl_call ?_ (by assumption)))))).mono ?_
  rintro e w3 ⟨rfl, hb3⟩
  have R3 := St.tri.alloc (o := .cells #[.int .u64 (k : Nat), .int .i64 P, .bool anti] 49) (St.tri.on hb3 R2)
  have S3 := St.tri.alloc (o := .cells #[.int .u64 (k : Nat), .int .i64 P, .bool anti] 49) (St.tri.on hb3 S2)
  clear d0 d1 d2 d3 d4 d5 d6 s0 s1 s2 s3 s4 s5 s6
  obtain ⟨r0, r1, r2, r3, r4, r5, r6⟩ := R3
  have R3 : tri _ _ _ _ _ := ⟨r0, r1, r2, r3, r4, r5, r6⟩
  obtain ⟨s0, s1, s2, s3, s4, s5, s6⟩ := S3
  have S3 : tri _ _ _ _ _ := ⟨s0, s1, s2, s3, s4, s5, s6⟩
  go_wp2_with fail
  refine (AW.out _ (by (repeat (first | (with_reducible exact Below.refl _ _) | (with_reducible assumption) | (with_reducible apply bl_alloc) | (with_reducible apply bl_drewN) | (with_reducible apply bl_drew) | (with_reducible refine bl_set ?_ (by first | (simp; done) | (simp; omega)) _) | (with_reducible refine bl_call ?_ (by assumption)))))).mono ?_
  rintro e w4 ⟨rfl, hb4⟩
  go_wp2_with fail
  go_ret
  exact ⟨rfl, by (repeat (first | (with_reducible exact Below.refl _ _) | (with_reducible assumption) | (with_reducible apply bl_alloc) | (with_reducible apply bl_drewN) | (with_reducible apply bl_drew) | (with_reducible refine bl_set ?_ (by first | (simp; done) | (simp; omega)) _) | (with_reducible refine bl_call ?_ (by assumption))))⟩
theorem drw_zero {E pos op n : Int} (h : drwE E pos op n = 0) : E = 0 ∧ 0 ≤ pos ∧ pos ≤ 1000000000000 - tkV op n := by
  unfold drwE at h
  by_cases h0 : E = 0
  · rw [if_pos h0] at h
    rcases errS_01 pos with ⟨h1, h2, h3⟩ | h1
    · rw [if_pos h1] at h
      by_cases hl : 1000000000000 - tkV op n < pos
      · rw [if_pos hl] at h; omega
      · exact ⟨h0, h2, by omega⟩
    · rw [if_neg (by omega)] at h; omega
  · rw [if_neg h0] at h; exact absurd h h0
theorem distSteps_walk (op a b n : Int) (p : Option Addr) (lv c : Nat) (q : Option Addr) (lw f : Nat) (V W : Nat → Int) (k : Nat) (pos : Int) (anti : Bool) (w : World) (hE : Env w) (hV : Row w p lv V) (hW : Row w q lw W) : Calls Tryd.prog 10 #[.agg #[.int .i64 op, .int .i64 a, .int .i64 b, .int .i64 n, .slice p lv c, .slice q lw f], .agg #[.int .u64 (k : Nat), .int .i64 pos, .bool anti]] w (Gives (.bool true) w) := by
  have AW := Lib.hid fun (w2 : World) (hb : Below w.heap.size w w2) => awake_any w2 (hE.below hb)
  have SH := Lib.hid (short_any op a b n p lv c q lw f)
  cases h : shB lv lw
  · rw [h] at SH
    exact steps_no op a b n p lv c q lw f k pos anti w SH AW
  · rw [h] at SH
    have DR := Lib.hid fun (w2 : World) (hb : Below w.heap.size w w2) => draw_any op a b n p lv c q lw f V W k pos anti w2 (hV.on hb) (hW.on hb)
    by_cases hd : drwE (errD op a b n lv lw V W) pos op n = 0
    · obtain ⟨h0, p0, p1⟩ := drw_zero hd
      have ht := tk_bd (acc_of h0)
      unfold drwR drwK drwP drwA at DR
      rw [hd, if_pos rfl, if_pos rfl, if_pos rfl] at DR
      by_cases h4 : op = 4
      · subst h4
        rw [show tkV 4 n = n from rfl] at DR p1 ht
        exact steps_sum a b n p lv c q lw f k pos anti _ (pos + n) (by rw [IntKind.wrap_i64]; omega) w SH AW DR
      · have e1 : tkV op n = 1 := by unfold tkV; rw [if_neg h4]
        rw [e1] at DR p1
        exact steps_one op a b n p lv c q lw f (by rw [beq_eq_false_iff_ne]; exact h4) k pos anti _ (pos + 1) (by rw [IntKind.wrap_i64]; omega) w SH AW DR
    · rw [drw_bad rfl hd] at DR
      exact steps_bad op a b n p lv c q lw f k pos anti _ (by rw [bne_iff_ne]; exact hd) w SH AW DR
end Go.Proofs.YteapicfobammjaaDoor.Di
