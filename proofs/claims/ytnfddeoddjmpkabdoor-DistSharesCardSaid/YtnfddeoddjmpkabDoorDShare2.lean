/-
  The statement DistShares, walked.
-/
import Derived.Test.YtnfddeoddjmpkabDoorDShare
import Derived.Test.YtnfddeoddjmpkabDoorDCheck
namespace Go.Proofs.YtnfddeoddjmpkabDoor.Di
open Go.RowKit
set_option linter.unusedVariables false
set_option maxHeartbeats 8000000
theorem shares_no (op a b n : Int) (p : Option Addr) (lv c : Nat) (q : Option Addr) (lw f : Nat) (x : Int) (w : World) (SH : Hid (∀ w2, Calls Tryd.prog 9 #[.agg #[.int .i64 op, .int .i64 a, .int .i64 b, .int .i64 n, .slice p lv c, .slice q lw f]] w2 (Gives (.bool false) w2))) (AW : Hid (∀ w2, Below w.heap.size w w2 → Calls Tryd.prog 11 #[] w2 (Gives (.bool true) w2))) : Calls Tryd.prog 4 #[.agg #[.int .i64 op, .int .i64 a, .int .i64 b, .int .i64 n, .slice p lv c, .slice q lw f], .int .u16 x] w (Gives (.bool true) w) := by
  go_enter Tryd.func4, Tryd.ntmps4
  go_wp2_with fail
  refine (SH.out _).mono ?_
  rintro e w1 ⟨rfl, hb1⟩
  go_wp2_with fail
  refine (AW.out _ (by (repeat (first | (with_reducible exact Below.refl _ _) | (with_reducible assumption) | (with_reducible apply bl_alloc) | (with_reducible apply bl_drewN) | (with_reducible apply bl_drew) | (with_reducible refine bl_set ?_ (by first | (simp; done) | (simp; omega)) _) | (with_reducible refine bl_call ?_ (by assumption)))))).mono ?_
  rintro e w2 ⟨rfl, hbw2⟩
  go_wp2_with fail
  go_ret
  exact ⟨rfl, by (repeat (first | (with_reducible exact Below.refl _ _) | (with_reducible assumption) | (with_reducible apply bl_alloc) | (with_reducible apply bl_drewN) | (with_reducible apply bl_drew) | (with_reducible refine bl_set ?_ (by first | (simp; done) | (simp; omega)) _) | (with_reducible refine bl_call ?_ (by assumption))))⟩
theorem shares_bad (op a b n : Int) (p : Option Addr) (lv c : Nat) (q : Option Addr) (lw f : Nat) (x E : Int) (hE : (E != 0) = true) (w : World) (SH : Hid (∀ w2, Calls Tryd.prog 9 #[.agg #[.int .i64 op, .int .i64 a, .int .i64 b, .int .i64 n, .slice p lv c, .slice q lw f]] w2 (Gives (.bool true) w2))) (CH : Hid (∀ w2, Below w.heap.size w w2 → Calls Tryd.prog 10 #[.agg #[.int .i64 op, .int .i64 a, .int .i64 b, .int .i64 n, .slice p lv c, .slice q lw f]] w2 (Gives (.int .i64 E) w2))) (AW : Hid (∀ w2, Below w.heap.size w w2 → Calls Tryd.prog 11 #[] w2 (Gives (.bool true) w2))) : Calls Tryd.prog 4 #[.agg #[.int .i64 op, .int .i64 a, .int .i64 b, .int .i64 n, .slice p lv c, .slice q lw f], .int .u16 x] w (Gives (.bool true) w) := by
  go_enter Tryd.func4, Tryd.ntmps4
  go_wp2_with fail
  refine (SH.out _).mono ?_
  rintro e w1 ⟨rfl, hb1⟩
  have D1 := six.on hb1 (six.new (w := w) (t := 33))
  obtain ⟨d0, d1, d2, d3, d4, d5, d6⟩ := D1
  have D1 : six _ _ _ _ _ _ _ _ := ⟨d0, d1, d2, d3, d4, d5, d6⟩
  go_wp2_with fail
  refine (CH.out _ (by (repeat (first | (with_reducible exact Below.refl _ _) | (with_reducible assumption) | (with_reducible apply bl_alloc) | (with_reducible apply bl_drewN) | (with_reducible apply bl_drew) | (with_reducible refine bl_set ?_ (by first | (simp; done) | (simp; omega)) _) | (with_reducible refine bl_call ?_ (by assumption)))))).mono ?_
  rintro e w2 ⟨rfl, hb2⟩
  have D2 := six.on hb2 D1
  clear d0 d1 d2 d3 d4 d5 d6 D1
  obtain ⟨d0, d1, d2, d3, d4, d5, d6⟩ := D2
  have D2 : six _ _ _ _ _ _ _ _ := ⟨d0, d1, d2, d3, d4, d5, d6⟩
  have B2 : Below w.heap.size w w2 := by (repeat (first | (with_reducible exact Below.refl _ _) | (with_reducible assumption) | (with_reducible apply bl_alloc) | (with_reducible apply bl_drewN) | (with_reducible apply bl_drew) | (with_reducible refine bl_set ?_ (by first | (simp; done) | (simp; omega)) _) | (with_reducible refine bl_call ?_ (by assumption))))
  go_wp2_with fail
  refine (AW.out _ (by (repeat (first | (with_reducible exact Below.refl _ _) | (with_reducible assumption) | (with_reducible apply bl_alloc) | (with_reducible apply bl_drewN) | (with_reducible apply bl_drew) | (with_reducible refine bl_set ?_ (by first | (simp; done) | (simp; omega)) _) | (with_reducible refine bl_call ?_ (by assumption)))))).mono ?_
  rintro e w3 ⟨rfl, hbw3⟩
  go_wp2_with fail
  go_ret
  exact ⟨rfl, by (repeat (first | (with_reducible exact Below.refl _ _) | (with_reducible assumption) | (with_reducible apply bl_alloc) | (with_reducible apply bl_drewN) | (with_reducible apply bl_drew) | (with_reducible refine bl_set ?_ (by first | (simp; done) | (simp; omega)) _) | (with_reducible refine bl_call ?_ (by assumption))))⟩
theorem shares_other (op a b n : Int) (p : Option Addr) (lv c : Nat) (q : Option Addr) (lw f : Nat) (x : Int) (h3 : (op != 3) = true) (h2 : (op != 2) = true) (w : World) (SH : Hid (∀ w2, Calls Tryd.prog 9 #[.agg #[.int .i64 op, .int .i64 a, .int .i64 b, .int .i64 n, .slice p lv c, .slice q lw f]] w2 (Gives (.bool true) w2))) (CH : Hid (∀ w2, Below w.heap.size w w2 → Calls Tryd.prog 10 #[.agg #[.int .i64 op, .int .i64 a, .int .i64 b, .int .i64 n, .slice p lv c, .slice q lw f]] w2 (Gives (.int .i64 0) w2))) (AW : Hid (∀ w2, Below w.heap.size w w2 → Calls Tryd.prog 11 #[] w2 (Gives (.bool true) w2))) : Calls Tryd.prog 4 #[.agg #[.int .i64 op, .int .i64 a, .int .i64 b, .int .i64 n, .slice p lv c, .slice q lw f], .int .u16 x] w (Gives (.bool true) w) := by
  go_enter Tryd.func4, Tryd.ntmps4
  go_wp2_with fail
  refine (SH.out _).mono ?_
  rintro e w1 ⟨rfl, hb1⟩
  have D1 := six.on hb1 (six.new (w := w) (t := 33))
  obtain ⟨d0, d1, d2, d3, d4, d5, d6⟩ := D1
  have D1 : six _ _ _ _ _ _ _ _ := ⟨d0, d1, d2, d3, d4, d5, d6⟩
  go_wp2_with fail
  refine (CH.out _ (by (repeat (first | (with_reducible exact Below.refl _ _) | (with_reducible assumption) | (with_reducible apply bl_alloc) | (with_reducible apply bl_drewN) | (with_reducible apply bl_drew) | (with_reducible refine bl_set ?_ (by first | (simp; done) | (simp; omega)) _) | (with_reducible refine bl_call ?_ (by assumption)))))).mono ?_
  rintro e w2 ⟨rfl, hb2⟩
  have D2 := six.on hb2 D1
  clear d0 d1 d2 d3 d4 d5 d6 D1
  obtain ⟨d0, d1, d2, d3, d4, d5, d6⟩ := D2
  have D2 : six _ _ _ _ _ _ _ _ := ⟨d0, d1, d2, d3, d4, d5, d6⟩
  have B2 : Below w.heap.size w w2 := by (repeat (first | (with_reducible exact Below.refl _ _) | (with_reducible assumption) | (with_reducible apply bl_alloc) | (with_reducible apply bl_drewN) | (with_reducible apply bl_drew) | (with_reducible refine bl_set ?_ (by first | (simp; done) | (simp; omega)) _) | (with_reducible refine bl_call ?_ (by assumption))))
  go_wp2_with fail
  refine (AW.out _ (by (repeat (first | (with_reducible exact Below.refl _ _) | (with_reducible assumption) | (with_reducible apply bl_alloc) | (with_reducible apply bl_drewN) | (with_reducible apply bl_drew) | (with_reducible refine bl_set ?_ (by first | (simp; done) | (simp; omega)) _) | (with_reducible refine bl_call ?_ (by assumption)))))).mono ?_
  rintro e w3 ⟨rfl, hbw3⟩
  go_wp2_with fail
  go_ret
  exact ⟨rfl, by (repeat (first | (with_reducible exact Below.refl _ _) | (with_reducible assumption) | (with_reducible apply bl_alloc) | (with_reducible apply bl_drewN) | (with_reducible apply bl_drew) | (with_reducible refine bl_set ?_ (by first | (simp; done) | (simp; omega)) _) | (with_reducible refine bl_call ?_ (by assumption))))⟩
theorem shares_big (a b n : Int) (p : Option Addr) (lv c : Nat) (q : Option Addr) (lw f : Nat) (x : Int) (N r : Nat) (w1 : IntKind.i64.wrap (b - a) = b - a) (w2 : IntKind.i64.wrap (b - a + 1) = (N : Int)) (w3 : IntKind.i64.wrap (a + (r : Int)) = a + (r : Int)) (hx : IntKind.i64.wrap x = x) (hr : x.tmod (N : Int) = (r : Int)) (hN0 : ¬ N = 0) (hN : 1000 < (N : Int)) (w : World) (SH : Hid (∀ w2, Calls Tryd.prog 9 #[.agg #[.int .i64 2, .int .i64 a, .int .i64 b, .int .i64 n, .slice p lv c, .slice q lw f]] w2 (Gives (.bool true) w2))) (CH : Hid (∀ w2, Below w.heap.size w w2 → Calls Tryd.prog 10 #[.agg #[.int .i64 2, .int .i64 a, .int .i64 b, .int .i64 n, .slice p lv c, .slice q lw f]] w2 (Gives (.int .i64 0) w2))) (AW : Hid (∀ w2, Below w.heap.size w w2 → Calls Tryd.prog 11 #[] w2 (Gives (.bool true) w2))) : Calls Tryd.prog 4 #[.agg #[.int .i64 2, .int .i64 a, .int .i64 b, .int .i64 n, .slice p lv c, .slice q lw f], .int .u16 x] w (Gives (.bool true) w) := by
  go_enter Tryd.func4, Tryd.ntmps4
  go_wp2_with fail
  refine (SH.out _).mono ?_
  rintro e w1 ⟨rfl, hb1⟩
  have D1 := six.on hb1 (six.new (w := w) (t := 33))
  obtain ⟨d0, d1, d2, d3, d4, d5, d6⟩ := D1
  have D1 : six _ _ _ _ _ _ _ _ := ⟨d0, d1, d2, d3, d4, d5, d6⟩
  go_wp2_with fail
  refine (CH.out _ (by (repeat (first | (with_reducible exact Below.refl _ _) | (with_reducible assumption) | (with_reducible apply bl_alloc) | (with_reducible apply bl_drewN) | (with_reducible apply bl_drew) | (with_reducible refine bl_set ?_ (by first | (simp; done) | (simp; omega)) _) | (with_reducible refine bl_call ?_ (by assumption)))))).mono ?_
  rintro e w2 ⟨rfl, hb2⟩
  have D2 := six.on hb2 D1
  clear d0 d1 d2 d3 d4 d5 d6 D1
  obtain ⟨d0, d1, d2, d3, d4, d5, d6⟩ := D2
  have D2 : six _ _ _ _ _ _ _ _ := ⟨d0, d1, d2, d3, d4, d5, d6⟩
  have B2 : Below w.heap.size w w2 := by (repeat (first | (with_reducible exact Below.refl _ _) | (with_reducible assumption) | (with_reducible apply bl_alloc) | (with_reducible apply bl_drewN) | (with_reducible apply bl_drew) | (with_reducible refine bl_set ?_ (by first | (simp; done) | (simp; omega)) _) | (with_reducible refine bl_call ?_ (by assumption))))
  go_wp2_with fail
  go_quiet (fail)
  go_wp2_with fail
  refine (AW.out _ (by (repeat (first | (with_reducible exact Below.refl _ _) | (with_reducible assumption) | (with_reducible apply bl_alloc) | (with_reducible apply bl_drewN) | (with_reducible apply bl_drew) | (with_reducible refine bl_set ?_ (by first | (simp; done) | (simp; omega)) _) | (with_reducible refine bl_call ?_ (by assumption)))))).mono ?_
  rintro e w3 ⟨rfl, hbw3⟩
  go_wp2_with fail
  go_ret
  exact ⟨rfl, by (repeat (first | (with_reducible exact Below.refl _ _) | (with_reducible assumption) | (with_reducible apply bl_alloc) | (with_reducible apply bl_drewN) | (with_reducible apply bl_drew) | (with_reducible refine bl_set ?_ (by first | (simp; done) | (simp; omega)) _) | (with_reducible refine bl_call ?_ (by assumption))))⟩
theorem mul_u {i st u : Nat} (h : i * st % 18446744073709551616 = u) : IntKind.u64.wrap ((i : Int) * (st : Int)) = (u : Int) := by
  rw [← h, ← Int.natCast_mul, IntKind.wrap_u64]
  omega
theorem shares_uni (a b n : Int) (p : Option Addr) (lv c : Nat) (q : Option Addr) (lw f : Nat) (x v : Int) (N r qq st : Nat) (K : Nat → Int) (w1 : IntKind.i64.wrap (b - a) = b - a) (w2 : IntKind.i64.wrap (b - a + 1) = (N : Int)) (w3 : IntKind.i64.wrap (a + (r : Int)) = v) (hx : IntKind.i64.wrap x = x) (hr : x.tmod (N : Int) = (r : Int)) (hN0 : ¬ N = 0) (hN : (N : Int) ≤ 1000) (hst : (18446744073709551615 : Int).tdiv (N : Int) = (qq : Int)) (hst2 : IntKind.u64.wrap ((qq : Int) + 1) = (st : Int)) (hq : (qq : Int) ≤ 18446744073709551615) (HT : Hid ((cnt K v N : Int) = 1)) (w : World) (SH : Hid (∀ w2, Calls Tryd.prog 9 #[.agg #[.int .i64 2, .int .i64 a, .int .i64 b, .int .i64 n, .slice p lv c, .slice q lw f]] w2 (Gives (.bool true) w2))) (CH : Hid (∀ w2, Below w.heap.size w w2 → Calls Tryd.prog 10 #[.agg #[.int .i64 2, .int .i64 a, .int .i64 b, .int .i64 n, .slice p lv c, .slice q lw f]] w2 (Gives (.int .i64 0) w2))) (AT : Hid (∀ i, i < N → ∀ w2, Below w.heap.size w w2 → Calls Tryd.prog 12 #[.agg #[.int .i64 2, .int .i64 a, .int .i64 b, .int .i64 n, .slice p lv c, .slice q lw f], .int .u64 (i * st % 18446744073709551616 : Nat)] w2 (Gives (.tuple #[.int .i64 (K i), .bool true]) w2))) (AW : Hid (∀ w2, Below w.heap.size w w2 → Calls Tryd.prog 11 #[] w2 (Gives (.bool true) w2))) : Calls Tryd.prog 4 #[.agg #[.int .i64 2, .int .i64 a, .int .i64 b, .int .i64 n, .slice p lv c, .slice q lw f], .int .u16 x] w (Gives (.bool true) w) := by
  go_enter Tryd.func4, Tryd.ntmps4
  go_wp2_with fail
  refine (SH.out _).mono ?_
  rintro e w1 ⟨rfl, hb1⟩
  have D1 := six.on hb1 (six.new (w := w) (t := 33))
  obtain ⟨d0, d1, d2, d3, d4, d5, d6⟩ := D1
  have D1 : six _ _ _ _ _ _ _ _ := ⟨d0, d1, d2, d3, d4, d5, d6⟩
  go_wp2_with fail
  refine (CH.out _ (by (repeat (first | (with_reducible exact Below.refl _ _) | (with_reducible assumption) | (with_reducible apply bl_alloc) | (with_reducible apply bl_drewN) | (with_reducible apply bl_drew) | (with_reducible refine bl_set ?_ (by first | (simp; done) | (simp; omega)) _) | (with_reducible refine bl_call ?_ (by assumption)))))).mono ?_
  rintro e w2 ⟨rfl, hb2⟩
  have D2 := six.on hb2 D1
  clear d0 d1 d2 d3 d4 d5 d6 D1
  obtain ⟨d0, d1, d2, d3, d4, d5, d6⟩ := D2
  have D2 : six _ _ _ _ _ _ _ _ := ⟨d0, d1, d2, d3, d4, d5, d6⟩
  have B2 : Below w.heap.size w w2 := by (repeat (first | (with_reducible exact Below.refl _ _) | (with_reducible assumption) | (with_reducible apply bl_alloc) | (with_reducible apply bl_drewN) | (with_reducible apply bl_drew) | (with_reducible refine bl_set ?_ (by first | (simp; done) | (simp; omega)) _) | (with_reducible refine bl_call ?_ (by assumption))))
  go_wp2_with fail
  go_quiet (fail)
  go_wp2_with fail
  go_loopw [10, 11] (fun x y wr => ∃ i cc : Nat, i ≤ N ∧ y = .int .i64 i ∧ x = .int .i64 cc ∧ cc ≤ i ∧ Hid (cnt K (v) i = cc) ∧ six wr w.heap.size (.int .i64 2) (.int .i64 a) (.int .i64 b) (.int .i64 n) (.slice p lv c) (.slice q lw f) ∧ Below w.heap.size w wr) (fun _ y _ => N - (intOf y).toNat)
  case atStart => exact ⟨0, 0, Nat.zero_le _, rfl, rfl, Nat.le_refl _, Lib.hid rfl, D2, by (repeat (first | (with_reducible exact Below.refl _ _) | (with_reducible assumption) | (with_reducible apply bl_alloc) | (with_reducible apply bl_drewN) | (with_reducible apply bl_drew) | (with_reducible refine bl_set ?_ (by first | (simp; done) | (simp; omega)) _) | (with_reducible refine bl_call ?_ (by assumption))))⟩
  case round =>
    obtain ⟨i, cc, hi, rfl, rfl, hcc, HC, D3, B3⟩ := hrel
    clear d0 d1 d2 d3 d4 d5 d6 D2
    rcases Nat.lt_or_ge i N with h | h
    · have c1 : (0 : Int) ≤ (i : Int) := by omega
      have c2 : (i : Int) < (N : Int) := by omega
      have c3 : (0 : Int) ≤ (cc : Int) := by omega
      have c4 : (cc : Int) ≤ 100000 := by omega
      have ATi := AT.out i h
      obtain ⟨u, eu⟩ : ∃ u, i * st % 18446744073709551616 = u := ⟨_, rfl⟩
      have hu := mul_u eu
      rw [eu] at ATi
      clear eu
      obtain ⟨d0, d1, d2, d3, d4, d5, d6⟩ := D3
      have D3 : six _ _ _ _ _ _ _ _ := ⟨d0, d1, d2, d3, d4, d5, d6⟩
      by_cases e : K i = v
      · have e1 := Lib.hid e
        rw [e] at ATi
        have ATi := Lib.hid ATi
        clear e
        go_wp2_with fail
        refine (ATi.out _ (by (repeat (first | (with_reducible exact Below.refl _ _) | (with_reducible assumption) | (with_reducible apply bl_alloc) | (with_reducible apply bl_drewN) | (with_reducible apply bl_drew) | (with_reducible refine bl_set ?_ (by first | (simp; done) | (simp; omega)) _) | (with_reducible refine bl_call ?_ (by assumption)))))).mono ?_
        rintro e w4 ⟨rfl, hb4⟩
        have D4 := six.on hb4 D3
        go_wp2_with fail
        go_roundw
        case rel => exact ⟨i + 1, cc + 1, by omega, by go_num, by go_num, by omega, Lib.hid (by rw [cnt_yes e1.out, HC.out]), D4, by (repeat (first | (with_reducible exact Below.refl _ _) | (with_reducible assumption) | (with_reducible apply bl_alloc) | (with_reducible apply bl_drewN) | (with_reducible apply bl_drew) | (with_reducible refine bl_set ?_ (by first | (simp; done) | (simp; omega)) _) | (with_reducible refine bl_call ?_ (by assumption))))⟩
        case measure => simp [intOf]; omega
      · obtain ⟨y, ey⟩ : ∃ y, K i = y := ⟨_, rfl⟩
        have e1 := Lib.hid e
        rw [ey] at ATi e
        have ATi := Lib.hid ATi
        have e2 : (y == v) = false := by rw [beq_eq_false_iff_ne]; exact e
        clear e ey
        go_wp2_with fail
        refine (ATi.out _ (by (repeat (first | (with_reducible exact Below.refl _ _) | (with_reducible assumption) | (with_reducible apply bl_alloc) | (with_reducible apply bl_drewN) | (with_reducible apply bl_drew) | (with_reducible refine bl_set ?_ (by first | (simp; done) | (simp; omega)) _) | (with_reducible refine bl_call ?_ (by assumption)))))).mono ?_
        rintro e w4 ⟨rfl, hb4⟩
        have D4 := six.on hb4 D3
        go_wp2_with fail
        go_roundw
        case rel => exact ⟨i + 1, cc, by omega, by go_num, rfl, by omega, Lib.hid (by rw [cnt_no e1.out, HC.out]), D4, by (repeat (first | (with_reducible exact Below.refl _ _) | (with_reducible assumption) | (with_reducible apply bl_alloc) | (with_reducible apply bl_drewN) | (with_reducible apply bl_drew) | (with_reducible refine bl_set ?_ (by first | (simp; done) | (simp; omega)) _) | (with_reducible refine bl_call ?_ (by assumption))))⟩
        case measure => simp [intOf]; omega
    · obtain rfl : N = i := by omega
      have hc1 : ((cc : Int) == 1) = true := by rw [beq_iff_eq, ← HC.out]; exact HT.out
      go_wp2_with fail
      refine (AW.out _ (by (repeat (first | (with_reducible exact Below.refl _ _) | (with_reducible assumption) | (with_reducible apply bl_alloc) | (with_reducible apply bl_drewN) | (with_reducible apply bl_drew) | (with_reducible refine bl_set ?_ (by first | (simp; done) | (simp; omega)) _) | (with_reducible refine bl_call ?_ (by assumption)))))).mono ?_
      rintro e w4 ⟨rfl, hb4⟩
      go_wp2_with fail
      go_ret
      exact ⟨rfl, by (repeat (first | (with_reducible exact Below.refl _ _) | (with_reducible assumption) | (with_reducible apply bl_alloc) | (with_reducible apply bl_drewN) | (with_reducible apply bl_drew) | (with_reducible refine bl_set ?_ (by first | (simp; done) | (simp; omega)) _) | (with_reducible refine bl_call ?_ (by assumption))))⟩
theorem shares_tab (a b n : Int) (b1 o1 lv c b2 o2 f : Nat) (V W : Nat → Int) (x v t : Int) (N r qq st : Nat) (K : Nat → Int) (hx : IntKind.i64.wrap x = x) (hr : x.tmod (lv : Int) = (r : Int)) (hl0 : ¬ lv = 0) (hr0 : (0 : Int) ≤ (r : Int)) (hr1 : (r : Int) < (lv : Int)) (hl : (lv : Int) ≤ 20) (HV : Hid (V r = v)) (HN : Hid (sumT W lv = (N : Int))) (HS : Hid (shr V W v lv = t)) (HB : Hid (∀ i, i < lv → 1 ≤ W i ∧ W i ≤ 1000)) (hN0 : ¬ N = 0) (hN : (N : Int) ≤ 20000) (hst : (18446744073709551615 : Int).tdiv (N : Int) = (qq : Int)) (hst2 : IntKind.u64.wrap ((qq : Int) + 1) = (st : Int)) (hq : (qq : Int) ≤ 18446744073709551615) (HT : Hid ((cnt K v N : Int) = t)) (w : World)
    (SH : Hid (∀ w2, Calls Tryd.prog 9 #[.agg #[.int .i64 3, .int .i64 a, .int .i64 b, .int .i64 n, .slice (some ⟨b1, o1, none⟩) lv c, .slice (some ⟨b2, o2, none⟩) lv f]] w2 (Gives (.bool true) w2))) (CH : Hid (∀ w2, Below w.heap.size w w2 → Calls Tryd.prog 10 #[.agg #[.int .i64 3, .int .i64 a, .int .i64 b, .int .i64 n, .slice (some ⟨b1, o1, none⟩) lv c, .slice (some ⟨b2, o2, none⟩) lv f]] w2 (Gives (.int .i64 0) w2))) (EV : Hid (∀ w2, Below w.heap.size w w2 → ∀ i, i < lv → w2.cell? ⟨b1, o1 + i, none⟩ = some (.int .i64 (V i)))) (EW : Hid (∀ w2, Below w.heap.size w w2 → ∀ i, i < lv → w2.cell? ⟨b2, o2 + i, none⟩ = some (.int .i64 (W i))))
    (AT : Hid (∀ i, i < N → ∀ w2, Below w.heap.size w w2 → Calls Tryd.prog 12 #[.agg #[.int .i64 3, .int .i64 a, .int .i64 b, .int .i64 n, .slice (some ⟨b1, o1, none⟩) lv c, .slice (some ⟨b2, o2, none⟩) lv f], .int .u64 (i * st % 18446744073709551616 : Nat)] w2 (Gives (.tuple #[.int .i64 (K i), .bool true]) w2))) (AW : Hid (∀ w2, Below w.heap.size w w2 → Calls Tryd.prog 11 #[] w2 (Gives (.bool true) w2))) : Calls Tryd.prog 4 #[.agg #[.int .i64 3, .int .i64 a, .int .i64 b, .int .i64 n, .slice (some ⟨b1, o1, none⟩) lv c, .slice (some ⟨b2, o2, none⟩) lv f], .int .u16 x] w (Gives (.bool true) w) := by
  go_enter Tryd.func4, Tryd.ntmps4
  go_wp2_with fail
  refine (SH.out _).mono ?_
  rintro e w1 ⟨rfl, hb1⟩
  have D1 := six.on hb1 (six.new (w := w) (t := 33))
  obtain ⟨d0, d1, d2, d3, d4, d5, d6⟩ := D1
  have D1 : six _ _ _ _ _ _ _ _ := ⟨d0, d1, d2, d3, d4, d5, d6⟩
  go_wp2_with fail
  refine (CH.out _ (by (repeat (first | (with_reducible exact Below.refl _ _) | (with_reducible assumption) | (with_reducible apply bl_alloc) | (with_reducible apply bl_drewN) | (with_reducible apply bl_drew) | (with_reducible refine bl_set ?_ (by first | (simp; done) | (simp; omega)) _) | (with_reducible refine bl_call ?_ (by assumption)))))).mono ?_
  rintro e w2 ⟨rfl, hb2⟩
  have D2 := six.on hb2 D1
  clear d0 d1 d2 d3 d4 d5 d6 D1
  obtain ⟨d0, d1, d2, d3, d4, d5, d6⟩ := D2
  have D2 : six _ _ _ _ _ _ _ _ := ⟨d0, d1, d2, d3, d4, d5, d6⟩
  have B2 : Below w.heap.size w w2 := by (repeat (first | (with_reducible exact Below.refl _ _) | (with_reducible assumption) | (with_reducible apply bl_alloc) | (with_reducible apply bl_drewN) | (with_reducible apply bl_drew) | (with_reducible refine bl_set ?_ (by first | (simp; done) | (simp; omega)) _) | (with_reducible refine bl_call ?_ (by assumption))))
  have g1 := EV.out w2 B2 r (by omega)
  rw [HV.out] at g1
  go_wp2_with fail
  go_quiet (fail)
  go_wp2_with fail
  go_loop [5, 6, 8] (fun x y z => ∃ (k : Nat) (s u : Int), k ≤ lv ∧ z = .int .i64 k ∧ x = .int .i64 s ∧ y = .int .i64 u ∧ 0 ≤ s ∧ s ≤ 1000 * (k : Int) ∧ 0 ≤ u ∧ u ≤ 1000 * (k : Int) ∧ Hid (sumT W k = s) ∧ Hid (shr V W v k = u)) (fun _ _ z => lv - (intOf z).toNat)
  case atStart => exact ⟨0, 0, 0, Nat.zero_le _, rfl, rfl, rfl, by omega, by omega, by omega, by omega, Lib.hid rfl, Lib.hid rfl⟩
  case round =>
    obtain ⟨k, s, u, hk, rfl, rfl, rfl, s0, s1, u0, u1, HSk, HUk⟩ := hrel
    rcases Nat.lt_or_ge k lv with h | h
    · clear g1
      have e1 := EV.out w2 B2 k h
      have e2 := EW.out w2 B2 k h
      obtain ⟨g0, g1⟩ := HB.out k h
      have c1 : (0 : Int) ≤ (k : Int) := by omega
      have c2 : (k : Int) < (lv : Int) := by omega
      by_cases e : V k = v
      · have H := Lib.hid e
        rw [e] at e1
        clear e
        go_wp2_with fail
        go_round
        case rel => exact ⟨k + 1, s + W k, u + W k, by omega, by go_num, rfl, rfl, by omega, by omega, by omega, by omega, Lib.hid (sum_step HSk.out), Lib.hid (by rw [shr_yes H.out, HUk.out])⟩
        case measure => simp [intOf]; omega
      · have H := Lib.hid e
        have e3 : (V k == v) = false := by rw [beq_eq_false_iff_ne]; exact e
        clear e
        go_wp2_with fail
        go_round
        case rel => exact ⟨k + 1, s + W k, u, by omega, by go_num, rfl, rfl, by omega, by omega, by omega, by omega, Lib.hid (sum_step HSk.out), Lib.hid (by rw [shr_no H.out, HUk.out])⟩
        case measure => simp [intOf]; omega
    · obtain rfl : lv = k := by omega
      obtain rfl : (N : Int) = s := HN.out.symm.trans HSk.out
      obtain rfl : t = u := HS.out.symm.trans HUk.out
      clear g1
      go_wp2_with fail
      go_loopw [10, 11] (fun x y wr => ∃ i cc : Nat, i ≤ N ∧ y = .int .i64 i ∧ x = .int .i64 cc ∧ cc ≤ i ∧ Hid (cnt K (v) i = cc) ∧ six wr w.heap.size (.int .i64 3) (.int .i64 a) (.int .i64 b) (.int .i64 n) (.slice (some ⟨b1, o1, none⟩) lv c) (.slice (some ⟨b2, o2, none⟩) lv f) ∧ Below w.heap.size w wr) (fun _ y _ => N - (intOf y).toNat)
      case atStart => exact ⟨0, 0, Nat.zero_le _, rfl, rfl, Nat.le_refl _, Lib.hid rfl, D2, by (repeat (first | (with_reducible exact Below.refl _ _) | (with_reducible assumption) | (with_reducible apply bl_alloc) | (with_reducible apply bl_drewN) | (with_reducible apply bl_drew) | (with_reducible refine bl_set ?_ (by first | (simp; done) | (simp; omega)) _) | (with_reducible refine bl_call ?_ (by assumption))))⟩
      case round =>
        obtain ⟨i, cc, hi, rfl, rfl, hcc, HC, D3, B3⟩ := hrel
        clear d0 d1 d2 d3 d4 d5 d6 D2
        rcases Nat.lt_or_ge i N with h | h
        · have c1 : (0 : Int) ≤ (i : Int) := by omega
          have c2 : (i : Int) < (N : Int) := by omega
          have c3 : (0 : Int) ≤ (cc : Int) := by omega
          have c4 : (cc : Int) ≤ 100000 := by omega
          have ATi := AT.out i h
          obtain ⟨u, eu⟩ : ∃ u, i * st % 18446744073709551616 = u := ⟨_, rfl⟩
          have hu := mul_u eu
          rw [eu] at ATi
          clear eu
          obtain ⟨d0, d1, d2, d3, d4, d5, d6⟩ := D3
          have D3 : six _ _ _ _ _ _ _ _ := ⟨d0, d1, d2, d3, d4, d5, d6⟩
          by_cases e : K i = v
          · have e1 := Lib.hid e
            rw [e] at ATi
            have ATi := Lib.hid ATi
            clear e
            go_wp2_with fail
            refine (ATi.out _ (by (repeat (first | (with_reducible exact Below.refl _ _) | (with_reducible assumption) | (with_reducible apply bl_alloc) | (with_reducible apply bl_drewN) | (with_reducible apply bl_drew) | (with_reducible refine bl_set ?_ (by first | (simp; done) | (simp; omega)) _) | (with_reducible refine bl_call ?_ (by assumption)))))).mono ?_
            rintro e w4 ⟨rfl, hb4⟩
            have D4 := six.on hb4 D3
            go_wp2_with fail
            go_roundw
            case rel => exact ⟨i + 1, cc + 1, by omega, by go_num, by go_num, by omega, Lib.hid (by rw [cnt_yes e1.out, HC.out]), D4, by (repeat (first | (with_reducible exact Below.refl _ _) | (with_reducible assumption) | (with_reducible apply bl_alloc) | (with_reducible apply bl_drewN) | (with_reducible apply bl_drew) | (with_reducible refine bl_set ?_ (by first | (simp; done) | (simp; omega)) _) | (with_reducible refine bl_call ?_ (by assumption))))⟩
            case measure => simp [intOf]; omega
          · obtain ⟨y, ey⟩ : ∃ y, K i = y := ⟨_, rfl⟩
            have e1 := Lib.hid e
            rw [ey] at ATi e
            have ATi := Lib.hid ATi
            have e2 : (y == v) = false := by rw [beq_eq_false_iff_ne]; exact e
            clear e ey
            go_wp2_with fail
            refine (ATi.out _ (by (repeat (first | (with_reducible exact Below.refl _ _) | (with_reducible assumption) | (with_reducible apply bl_alloc) | (with_reducible apply bl_drewN) | (with_reducible apply bl_drew) | (with_reducible refine bl_set ?_ (by first | (simp; done) | (simp; omega)) _) | (with_reducible refine bl_call ?_ (by assumption)))))).mono ?_
            rintro e w4 ⟨rfl, hb4⟩
            have D4 := six.on hb4 D3
            go_wp2_with fail
            go_roundw
            case rel => exact ⟨i + 1, cc, by omega, by go_num, rfl, by omega, Lib.hid (by rw [cnt_no e1.out, HC.out]), D4, by (repeat (first | (with_reducible exact Below.refl _ _) | (with_reducible assumption) | (with_reducible apply bl_alloc) | (with_reducible apply bl_drewN) | (with_reducible apply bl_drew) | (with_reducible refine bl_set ?_ (by first | (simp; done) | (simp; omega)) _) | (with_reducible refine bl_call ?_ (by assumption))))⟩
            case measure => simp [intOf]; omega
        · obtain rfl : N = i := by omega
          have hc1 : ((cc : Int) == t) = true := by rw [beq_iff_eq, ← HC.out]; exact HT.out
          go_wp2_with fail
          refine (AW.out _ (by (repeat (first | (with_reducible exact Below.refl _ _) | (with_reducible assumption) | (with_reducible apply bl_alloc) | (with_reducible apply bl_drewN) | (with_reducible apply bl_drew) | (with_reducible refine bl_set ?_ (by first | (simp; done) | (simp; omega)) _) | (with_reducible refine bl_call ?_ (by assumption)))))).mono ?_
          rintro e w4 ⟨rfl, hb4⟩
          go_wp2_with fail
          go_ret
          exact ⟨rfl, by (repeat (first | (with_reducible exact Below.refl _ _) | (with_reducible assumption) | (with_reducible apply bl_alloc) | (with_reducible apply bl_drewN) | (with_reducible apply bl_drew) | (with_reducible refine bl_set ?_ (by first | (simp; done) | (simp; omega)) _) | (with_reducible refine bl_call ?_ (by assumption))))⟩
end Go.Proofs.YtnfddeoddjmpkabDoor.Di
