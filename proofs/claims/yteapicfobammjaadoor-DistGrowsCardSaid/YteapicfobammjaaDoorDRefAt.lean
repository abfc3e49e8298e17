/-
  The contracts of the reference's At, Least, Most.
-/
import Derived.Test.YteapicfobammjaaDoorDSingle
namespace Go.Proofs.YteapicfobammjaaDoor.Di
open Go.RowKit
open St (hiN hiN_lt)
set_option maxHeartbeats 2000000
theorem rat_no (op a b n : Int) (p : Option Addr) (lv c : Nat) (q : Option Addr) (lw f : Nat) (E : Int) (hE : (E != 0) = true) (u : Nat) (w : World) (CH : Hid (∀ w2, Below w.heap.size w w2 → Calls Tryd.prog 25 #[.agg #[.int .i64 op, .int .i64 a, .int .i64 b, .int .i64 n, .slice p lv c, .slice q lw f]] w2 (Gives (.int .i64 E) w2))) : Calls Tryd.prog 31 #[.agg #[.int .i64 op, .int .i64 a, .int .i64 b, .int .i64 n, .slice p lv c, .slice q lw f], .int .u64 u] w (Gives (.tuple #[.int .i64 0, .bool false]) w) := by
  go_enter Tryd.func31, Tryd.ntmps31
  go_wp2_with fail
  refine (CH.out _ (by (repeat (first | (with_reducible exact Below.refl _ _) | (with_reducible assumption) | (with_reducible apply bl_alloc) | (with_reducible apply bl_drewN) | (with_reducible apply bl_drew) | (with_reducible refine bl_set ?_ (by first | (simp; done) | (simp; omega)) _) | (with_reducible refine bl_call ?_ (by assumption)))))).mono ?_
  rintro e w1 ⟨rfl, hb1⟩
  go_wp2_with fail
  go_ret2
  exact ⟨rfl, by (repeat (first | (with_reducible exact Below.refl _ _) | (with_reducible assumption) | (with_reducible apply bl_alloc) | (with_reducible apply bl_drewN) | (with_reducible apply bl_drew) | (with_reducible refine bl_set ?_ (by first | (simp; done) | (simp; omega)) _) | (with_reducible refine bl_call ?_ (by assumption))))⟩
theorem rat4 (a b n : Int) (p : Option Addr) (lv c : Nat) (q : Option Addr) (lw f : Nat) (u : Nat) (w : World) (CH : Hid (∀ w2, Below w.heap.size w w2 → Calls Tryd.prog 25 #[.agg #[.int .i64 4, .int .i64 a, .int .i64 b, .int .i64 n, .slice p lv c, .slice q lw f]] w2 (Gives (.int .i64 0) w2))) : Calls Tryd.prog 31 #[.agg #[.int .i64 4, .int .i64 a, .int .i64 b, .int .i64 n, .slice p lv c, .slice q lw f], .int .u64 u] w (Gives (.tuple #[.int .i64 0, .bool false]) w) := by
  go_enter Tryd.func31, Tryd.ntmps31
  go_wp2_with fail
  refine (CH.out _ (by (repeat (first | (with_reducible exact Below.refl _ _) | (with_reducible assumption) | (with_reducible apply bl_alloc) | (with_reducible apply bl_drewN) | (with_reducible apply bl_drew) | (with_reducible refine bl_set ?_ (by first | (simp; done) | (simp; omega)) _) | (with_reducible refine bl_call ?_ (by assumption)))))).mono ?_
  rintro e w1 ⟨rfl, hb1⟩
  have D1 := six.on hb1 six.new
  obtain ⟨d0, d1, d2, d3, d4, d5, d6⟩ := D1
  go_wp2_with fail
  go_ret2
  exact ⟨rfl, by (repeat (first | (with_reducible exact Below.refl _ _) | (with_reducible assumption) | (with_reducible apply bl_alloc) | (with_reducible apply bl_drewN) | (with_reducible apply bl_drew) | (with_reducible refine bl_set ?_ (by first | (simp; done) | (simp; omega)) _) | (with_reducible refine bl_call ?_ (by assumption))))⟩
theorem rat1 (a b n : Int) (p : Option Addr) (lv c : Nat) (q : Option Addr) (lw f : Nat) (u : Nat) (w : World) (CH : Hid (∀ w2, Below w.heap.size w w2 → Calls Tryd.prog 25 #[.agg #[.int .i64 1, .int .i64 a, .int .i64 b, .int .i64 n, .slice p lv c, .slice q lw f]] w2 (Gives (.int .i64 0) w2))) : Calls Tryd.prog 31 #[.agg #[.int .i64 1, .int .i64 a, .int .i64 b, .int .i64 n, .slice p lv c, .slice q lw f], .int .u64 u] w (Gives (.tuple #[.int .i64 a, .bool true]) w) := by
  go_enter Tryd.func31, Tryd.ntmps31
  go_wp2_with fail
  refine (CH.out _ (by (repeat (first | (with_reducible exact Below.refl _ _) | (with_reducible assumption) | (with_reducible apply bl_alloc) | (with_reducible apply bl_drewN) | (with_reducible apply bl_drew) | (with_reducible refine bl_set ?_ (by first | (simp; done) | (simp; omega)) _) | (with_reducible refine bl_call ?_ (by assumption)))))).mono ?_
  rintro e w1 ⟨rfl, hb1⟩
  have D1 := six.on hb1 six.new
  obtain ⟨d0, d1, d2, d3, d4, d5, d6⟩ := D1
  go_wp2_with fail
  go_ret2
  exact ⟨rfl, by (repeat (first | (with_reducible exact Below.refl _ _) | (with_reducible assumption) | (with_reducible apply bl_alloc) | (with_reducible apply bl_drewN) | (with_reducible apply bl_drew) | (with_reducible refine bl_set ?_ (by first | (simp; done) | (simp; omega)) _) | (with_reducible refine bl_call ?_ (by assumption))))⟩
theorem rat2 (a b n : Int) (p : Option Addr) (lv c : Nat) (q : Option Addr) (lw f : Nat) (u : Nat) (v : Int) (w : World) (CH : Hid (∀ w2, Below w.heap.size w w2 → Calls Tryd.prog 25 #[.agg #[.int .i64 2, .int .i64 a, .int .i64 b, .int .i64 n, .slice p lv c, .slice q lw f]] w2 (Gives (.int .i64 0) w2))) (U : Hid (∀ w2, Calls Tryd.prog 73 #[.int .i64 a, .int .i64 b, .int .u64 u] w2 fun e w' => e = .returned (.int .i64 v) ∧ w2 = w')) : Calls Tryd.prog 31 #[.agg #[.int .i64 2, .int .i64 a, .int .i64 b, .int .i64 n, .slice p lv c, .slice q lw f], .int .u64 u] w (Gives (.tuple #[.int .i64 v, .bool true]) w) := by
  go_enter Tryd.func31, Tryd.ntmps31
  go_wp2_with fail
  refine (CH.out _ (by (repeat (first | (with_reducible exact Below.refl _ _) | (with_reducible assumption) | (with_reducible apply bl_alloc) | (with_reducible apply bl_drewN) | (with_reducible apply bl_drew) | (with_reducible refine bl_set ?_ (by first | (simp; done) | (simp; omega)) _) | (with_reducible refine bl_call ?_ (by assumption)))))).mono ?_
  rintro e w1 ⟨rfl, hb1⟩
  have D1 := six.on hb1 six.new
  obtain ⟨d0, d1, d2, d3, d4, d5, d6⟩ := D1
  go_wp2_with fail
  refine (U.out _).mono ?_
  rintro e w2 ⟨rfl, rfl⟩
  go_wp2_with fail
  go_ret2
  exact ⟨rfl, by (repeat (first | (with_reducible exact Below.refl _ _) | (with_reducible assumption) | (with_reducible apply bl_alloc) | (with_reducible apply bl_drewN) | (with_reducible apply bl_drew) | (with_reducible refine bl_set ?_ (by first | (simp; done) | (simp; omega)) _) | (with_reducible refine bl_call ?_ (by assumption))))⟩
theorem rat5 (a b n : Int) (p : Option Addr) (lv c : Nat) (q : Option Addr) (lw f : Nat) (u : Nat) (v : Int) (w : World) (CH : Hid (∀ w2, Below w.heap.size w w2 → Calls Tryd.prog 25 #[.agg #[.int .i64 5, .int .i64 a, .int .i64 b, .int .i64 n, .slice p lv c, .slice q lw f]] w2 (Gives (.int .i64 0) w2))) (U : Hid (∀ w2, Calls Tryd.prog 75 #[.int .i64 a, .int .i64 b, .int .u64 u] w2 fun e w' => e = .returned (.int .i64 v) ∧ w2 = w')) : Calls Tryd.prog 31 #[.agg #[.int .i64 5, .int .i64 a, .int .i64 b, .int .i64 n, .slice p lv c, .slice q lw f], .int .u64 u] w (Gives (.tuple #[.int .i64 v, .bool true]) w) := by
  go_enter Tryd.func31, Tryd.ntmps31
  go_wp2_with fail
  refine (CH.out _ (by (repeat (first | (with_reducible exact Below.refl _ _) | (with_reducible assumption) | (with_reducible apply bl_alloc) | (with_reducible apply bl_drewN) | (with_reducible apply bl_drew) | (with_reducible refine bl_set ?_ (by first | (simp; done) | (simp; omega)) _) | (with_reducible refine bl_call ?_ (by assumption)))))).mono ?_
  rintro e w1 ⟨rfl, hb1⟩
  have D1 := six.on hb1 six.new
  obtain ⟨d0, d1, d2, d3, d4, d5, d6⟩ := D1
  go_wp2_with fail
  refine (U.out _).mono ?_
  rintro e w2 ⟨rfl, rfl⟩
  go_wp2_with fail
  go_ret2
  exact ⟨rfl, by (repeat (first | (with_reducible exact Below.refl _ _) | (with_reducible assumption) | (with_reducible apply bl_alloc) | (with_reducible apply bl_drewN) | (with_reducible apply bl_drew) | (with_reducible refine bl_set ?_ (by first | (simp; done) | (simp; omega)) _) | (with_reducible refine bl_call ?_ (by assumption))))⟩
theorem rat3 (a b n : Int) (p : Option Addr) (lv c : Nat) (q : Option Addr) (lw f : Nat) (u : Nat) (v : Int) (w : World) (CH : Hid (∀ w2, Below w.heap.size w w2 → Calls Tryd.prog 25 #[.agg #[.int .i64 3, .int .i64 a, .int .i64 b, .int .i64 n, .slice p lv c, .slice q lw f]] w2 (Gives (.int .i64 0) w2))) (U : Hid (∀ w2, Below w.heap.size w w2 → Calls Tryd.prog 74 #[.agg #[.int .i64 3, .int .i64 a, .int .i64 b, .int .i64 n, .slice p lv c, .slice q lw f], .int .u64 u] w2 (Gives (.int .i64 v) w2))) : Calls Tryd.prog 31 #[.agg #[.int .i64 3, .int .i64 a, .int .i64 b, .int .i64 n, .slice p lv c, .slice q lw f], .int .u64 u] w (Gives (.tuple #[.int .i64 v, .bool true]) w) := by
  go_enter Tryd.func31, Tryd.ntmps31
  go_wp2_with fail
  refine (CH.out _ (by (repeat (first | (with_reducible exact Below.refl _ _) | (with_reducible assumption) | (with_reducible apply bl_alloc) | (with_reducible apply bl_drewN) | (with_reducible apply bl_drew) | (with_reducible refine bl_set ?_ (by first | (simp; done) | (simp; omega)) _) | (with_reducible refine bl_call ?_ (by assumption)))))).mono ?_
  rintro e w1 ⟨rfl, hb1⟩
  have D1 := six.on hb1 six.new
  obtain ⟨d0, d1, d2, d3, d4, d5, d6⟩ := D1
  go_wp2_with fail
  refine (U.out _ (by (repeat (first | (with_reducible exact Below.refl _ _) | (with_reducible assumption) | (with_reducible apply bl_alloc) | (with_reducible apply bl_drewN) | (with_reducible apply bl_drew) | (with_reducible refine bl_set ?_ (by first | (simp; done) | (simp; omega)) _) | (with_reducible refine bl_call ?_ (by assumption)))))).mono ?_
  rintro e w2 ⟨rfl, hb2⟩
  go_wp2_with fail
  go_ret2
  exact ⟨rfl, by (repeat (first | (with_reducible exact Below.refl _ _) | (with_reducible assumption) | (with_reducible apply bl_alloc) | (with_reducible apply bl_drewN) | (with_reducible apply bl_drew) | (with_reducible refine bl_set ?_ (by first | (simp; done) | (simp; omega)) _) | (with_reducible refine bl_call ?_ (by assumption))))⟩
theorem rat_any (op a b n : Int) (p : Option Addr) (lv c : Nat) (q : Option Addr) (lw f : Nat) (V W : Nat → Int) (u : Nat) (hu : u < 18446744073709551616) (w : World) (hV : Row w p lv V) (hW : Row w q lw W) :
    Calls Tryd.prog 31 #[.agg #[.int .i64 op, .int .i64 a, .int .i64 b, .int .i64 n, .slice p lv c, .slice q lw f], .int .u64 u] w (Gives (.tuple #[.int .i64 (atV (errD op a b n lv lw V W) op a b lv V W u), .bool (atB (errD op a b n lv lw V W) op)]) w) := by
  have CH := Lib.hid fun (w2 : World) (hb : Below w.heap.size w w2) => rcheck_any op a b n p lv c q lw f V W w2 (hV.on hb) (hW.on hb)
  by_cases hE : errD op a b n lv lw V W = 0
  · have hA := acc_of hE
    rw [hE] at CH ⊢
    by_cases h4 : op = 4
    · subst h4
      exact rat4 a b n p lv c q lw f u w CH
    · have e1 : atB 0 op = true := by unfold atB; exact decide_eq_true ⟨rfl, h4⟩
      unfold atV
      rw [e1, if_pos rfl]
      unfold sglV
      rcases hA with ⟨rfl, h⟩ | ⟨rfl, h⟩ | ⟨rfl, rfl, h2, h3, h4', h5⟩ | ⟨rfl, h⟩ | ⟨rfl, h⟩
      · rw [if_pos rfl]; exact rat1 a b n p lv c q lw f u w CH
      · rw [if_neg (by decide), if_neg (by decide), if_neg (by decide)]
        exact rat2 a b n p lv c q lw f u _ w CH (Lib.hid (runi_any a b u hu h.1 h.2.1 h.2.2))
      · rw [if_neg (by decide), if_pos rfl]
        exact rat3 a b n p _ c q _ f u _ w CH (Lib.hid fun w2 hb => rtab_any 3 a b n p c q f _ u V W w2 (hV.on hb) (hW.on hb) h2 h3 h5 hu)
      · exact absurd rfl h4
      · rw [if_neg (by decide), if_neg (by decide), if_pos rfl]
        obtain ⟨A, rfl⟩ : ∃ A : Nat, a = (A : Int) := ⟨a.toNat, by omega⟩
        obtain ⟨B, rfl⟩ : ∃ B : Nat, b = (B : Int) := ⟨b.toNat, by omega⟩
        rw [Int.toNat_natCast, Int.toNat_natCast]
        exact rat5 _ _ n p lv c q lw f u _ w CH (Lib.hid (rgeom_any A B u (by omega) (by omega) (by omega) (by omega) hu))
  · have e1 : atB (errD op a b n lv lw V W) op = false := by unfold atB; exact decide_eq_false (fun h => hE h.1)
    unfold atV
    rw [e1, if_neg (by decide)]
    exact rat_no op a b n p lv c q lw f _ (by rw [bne_iff_ne]; exact hE) u w CH
theorem rleast_sum (a b n : Int) (p : Option Addr) (lv c : Nat) (q : Option Addr) (lw f : Nat) (w : World) (r : Int) (wn : IntKind.i64.wrap (n * a) = r) (CH : Hid (∀ w2, Below w.heap.size w w2 → Calls Tryd.prog 25 #[.agg #[.int .i64 4, .int .i64 a, .int .i64 b, .int .i64 n, .slice p lv c, .slice q lw f]] w2 (Gives (.int .i64 0) w2))) : Calls Tryd.prog 33 #[.agg #[.int .i64 4, .int .i64 a, .int .i64 b, .int .i64 n, .slice p lv c, .slice q lw f]] w (Gives (.int .i64 r) w) := by
  go_enter Tryd.func33, Tryd.ntmps33
  go_wp2_with fail
  refine (CH.out _ (by (repeat (first | (with_reducible exact Below.refl _ _) | (with_reducible assumption) | (with_reducible apply bl_alloc) | (with_reducible apply bl_drewN) | (with_reducible apply bl_drew) | (with_reducible refine bl_set ?_ (by first | (simp; done) | (simp; omega)) _) | (with_reducible refine bl_call ?_ (by assumption)))))).mono ?_
  rintro e w1 ⟨rfl, hb1⟩
  have D1 := six.on hb1 six.new
  obtain ⟨d0, d1, d2, d3, d4, d5, d6⟩ := D1
  go_wp2_with fail
  go_ret
  exact ⟨rfl, by (repeat (first | (with_reducible exact Below.refl _ _) | (with_reducible assumption) | (with_reducible apply bl_alloc) | (with_reducible apply bl_drewN) | (with_reducible apply bl_drew) | (with_reducible refine bl_set ?_ (by first | (simp; done) | (simp; omega)) _) | (with_reducible refine bl_call ?_ (by assumption))))⟩
theorem rmost_sum (a b n : Int) (p : Option Addr) (lv c : Nat) (q : Option Addr) (lw f : Nat) (w : World) (r : Int) (wn : IntKind.i64.wrap (n * b) = r) (CH : Hid (∀ w2, Below w.heap.size w w2 → Calls Tryd.prog 25 #[.agg #[.int .i64 4, .int .i64 a, .int .i64 b, .int .i64 n, .slice p lv c, .slice q lw f]] w2 (Gives (.int .i64 0) w2))) : Calls Tryd.prog 35 #[.agg #[.int .i64 4, .int .i64 a, .int .i64 b, .int .i64 n, .slice p lv c, .slice q lw f]] w (Gives (.int .i64 r) w) := by
  go_enter Tryd.func35, Tryd.ntmps35
  go_wp2_with fail
  refine (CH.out _ (by (repeat (first | (with_reducible exact Below.refl _ _) | (with_reducible assumption) | (with_reducible apply bl_alloc) | (with_reducible apply bl_drewN) | (with_reducible apply bl_drew) | (with_reducible refine bl_set ?_ (by first | (simp; done) | (simp; omega)) _) | (with_reducible refine bl_call ?_ (by assumption)))))).mono ?_
  rintro e w1 ⟨rfl, hb1⟩
  have D1 := six.on hb1 six.new
  obtain ⟨d0, d1, d2, d3, d4, d5, d6⟩ := D1
  go_wp2_with fail
  go_ret
  exact ⟨rfl, by (repeat (first | (with_reducible exact Below.refl _ _) | (with_reducible assumption) | (with_reducible apply bl_alloc) | (with_reducible apply bl_drewN) | (with_reducible apply bl_drew) | (with_reducible refine bl_set ?_ (by first | (simp; done) | (simp; omega)) _) | (with_reducible refine bl_call ?_ (by assumption))))⟩
theorem rleast_at (op a b n : Int) (p : Option Addr) (lv c : Nat) (q : Option Addr) (lw f : Nat) (E : Int) (hE : (E == 0) = false ∨ ((E == 0) = true ∧ (op == 4) = false)) (v : Int) (o : Bool) (w : World) (CH : Hid (∀ w2, Below w.heap.size w w2 → Calls Tryd.prog 25 #[.agg #[.int .i64 op, .int .i64 a, .int .i64 b, .int .i64 n, .slice p lv c, .slice q lw f]] w2 (Gives (.int .i64 E) w2))) (AT : Hid (∀ w2, Below w.heap.size w w2 → Calls Tryd.prog 31 #[.agg #[.int .i64 op, .int .i64 a, .int .i64 b, .int .i64 n, .slice p lv c, .slice q lw f], .int .u64 0] w2 (Gives (.tuple #[.int .i64 v, .bool o]) w2))) : Calls Tryd.prog 33 #[.agg #[.int .i64 op, .int .i64 a, .int .i64 b, .int .i64 n, .slice p lv c, .slice q lw f]] w (Gives (.int .i64 v) w) := by
  rcases hE with hE | ⟨hE, h4⟩
  · go_enter Tryd.func33, Tryd.ntmps33
    go_wp2_with fail
    refine (CH.out _ (by (repeat (first | (with_reducible exact Below.refl _ _) | (with_reducible assumption) | (with_reducible apply bl_alloc) | (with_reducible apply bl_drewN) | (with_reducible apply bl_drew) | (with_reducible refine bl_set ?_ (by first | (simp; done) | (simp; omega)) _) | (with_reducible refine bl_call ?_ (by assumption)))))).mono ?_
    rintro e w1 ⟨rfl, hb1⟩
    have D1 := six.on hb1 six.new
    obtain ⟨d0, d1, d2, d3, d4, d5, d6⟩ := D1
    go_wp2_with fail
    refine (AT.out _ (by (repeat (first | (with_reducible exact Below.refl _ _) | (with_reducible assumption) | (with_reducible apply bl_alloc) | (with_reducible apply bl_drewN) | (with_reducible apply bl_drew) | (with_reducible refine bl_set ?_ (by first | (simp; done) | (simp; omega)) _) | (with_reducible refine bl_call ?_ (by assumption)))))).mono ?_
    rintro e w2 ⟨rfl, hb2⟩
    go_wp2_with fail
    go_ret
    exact ⟨rfl, by (repeat (first | (with_reducible exact Below.refl _ _) | (with_reducible assumption) | (with_reducible apply bl_alloc) | (with_reducible apply bl_drewN) | (with_reducible apply bl_drew) | (with_reducible refine bl_set ?_ (by first | (simp; done) | (simp; omega)) _) | (with_reducible refine bl_call ?_ (by assumption))))⟩
  · go_enter Tryd.func33, Tryd.ntmps33
    go_wp2_with fail
    refine (CH.out _ (by (repeat (first | (with_reducible exact Below.refl _ _) | (with_reducible assumption) | (with_reducible apply bl_alloc) | (with_reducible apply bl_drewN) | (with_reducible apply bl_drew) | (with_reducible refine bl_set ?_ (by first | (simp; done) | (simp; omega)) _) | (with_reducible refine bl_call ?_ (by assumption)))))).mono ?_
    rintro e w1 ⟨rfl, hb1⟩
    have D1 := six.on hb1 six.new
    obtain ⟨d0, d1, d2, d3, d4, d5, d6⟩ := D1
    go_wp2_with fail
    refine (AT.out _ (by (repeat (first | (with_reducible exact Below.refl _ _) | (with_reducible assumption) | (with_reducible apply bl_alloc) | (with_reducible apply bl_drewN) | (with_reducible apply bl_drew) | (with_reducible refine bl_set ?_ (by first | (simp; done) | (simp; omega)) _) | (with_reducible refine bl_call ?_ (by assumption)))))).mono ?_
    rintro e w2 ⟨rfl, hb2⟩
    go_wp2_with fail
    go_ret
    exact ⟨rfl, by (repeat (first | (with_reducible exact Below.refl _ _) | (with_reducible assumption) | (with_reducible apply bl_alloc) | (with_reducible apply bl_drewN) | (with_reducible apply bl_drew) | (with_reducible refine bl_set ?_ (by first | (simp; done) | (simp; omega)) _) | (with_reducible refine bl_call ?_ (by assumption))))⟩
theorem rmost_at (op a b n : Int) (p : Option Addr) (lv c : Nat) (q : Option Addr) (lw f : Nat) (E : Int) (hE : (E == 0) = false ∨ ((E == 0) = true ∧ (op == 4) = false)) (v : Int) (o : Bool) (w : World) (CH : Hid (∀ w2, Below w.heap.size w w2 → Calls Tryd.prog 25 #[.agg #[.int .i64 op, .int .i64 a, .int .i64 b, .int .i64 n, .slice p lv c, .slice q lw f]] w2 (Gives (.int .i64 E) w2))) (AT : Hid (∀ w2, Below w.heap.size w w2 → Calls Tryd.prog 31 #[.agg #[.int .i64 op, .int .i64 a, .int .i64 b, .int .i64 n, .slice p lv c, .slice q lw f], .int .u64 18446744073709551615] w2 (Gives (.tuple #[.int .i64 v, .bool o]) w2))) : Calls Tryd.prog 35 #[.agg #[.int .i64 op, .int .i64 a, .int .i64 b, .int .i64 n, .slice p lv c, .slice q lw f]] w (Gives (.int .i64 v) w) := by
  rcases hE with hE | ⟨hE, h4⟩
  · go_enter Tryd.func35, Tryd.ntmps35
    go_wp2_with fail
    refine (CH.out _ (by (repeat (first | (with_reducible exact Below.refl _ _) | (with_reducible assumption) | (with_reducible apply bl_alloc) | (with_reducible apply bl_drewN) | (with_reducible apply bl_drew) | (with_reducible refine bl_set ?_ (by first | (simp; done) | (simp; omega)) _) | (with_reducible refine bl_call ?_ (by assumption)))))).mono ?_
    rintro e w1 ⟨rfl, hb1⟩
    have D1 := six.on hb1 six.new
    obtain ⟨d0, d1, d2, d3, d4, d5, d6⟩ := D1
    go_wp2_with fail
    refine (AT.out _ (by (repeat (first | (with_reducible exact Below.refl _ _) | (with_reducible assumption) | (with_reducible apply bl_alloc) | (with_reducible apply bl_drewN) | (with_reducible apply bl_drew) | (with_reducible refine bl_set ?_ (by first | (simp; done) | (simp; omega)) _) | (with_reducible refine bl_call ?_ (by assumption)))))).mono ?_
    rintro e w2 ⟨rfl, hb2⟩
    go_wp2_with fail
    go_ret
    exact ⟨rfl, by (repeat (first | (with_reducible exact Below.refl _ _) | (with_reducible assumption) | (with_reducible apply bl_alloc) | (with_reducible apply bl_drewN) | (with_reducible apply bl_drew) | (with_reducible refine bl_set ?_ (by first | (simp; done) | (simp; omega)) _) | (with_reducible refine bl_call ?_ (by assumption))))⟩
  · go_enter Tryd.func35, Tryd.ntmps35
    go_wp2_with fail
    refine (CH.out _ (by (repeat (first | (with_reducible exact Below.refl _ _) | (with_reducible assumption) | (with_reducible apply bl_alloc) | (with_reducible apply bl_drewN) | (with_reducible apply bl_drew) | (with_reducible refine bl_set ?_ (by first | (simp; done) | (simp; omega)) _) | (with_reducible refine bl_call ?_ (by assumption)))))).mono ?_
    rintro e w1 ⟨rfl, hb1⟩
    have D1 := six.on hb1 six.new
    obtain ⟨d0, d1, d2, d3, d4, d5, d6⟩ := D1
    go_wp2_with fail
    refine (AT.out _ (by (repeat (first | (with_reducible exact Below.refl _ _) | (with_reducible assumption) | (with_reducible apply bl_alloc) | (with_reducible apply bl_drewN) | (with_reducible apply bl_drew) | (with_reducible refine bl_set ?_ (by first | (simp; done) | (simp; omega)) _) | (with_reducible refine bl_call ?_ (by assumption)))))).mono ?_
    rintro e w2 ⟨rfl, hb2⟩
    go_wp2_with fail
    go_ret
    exact ⟨rfl, by (repeat (first | (with_reducible exact Below.refl _ _) | (with_reducible assumption) | (with_reducible apply bl_alloc) | (with_reducible apply bl_drewN) | (with_reducible apply bl_drew) | (with_reducible refine bl_set ?_ (by first | (simp; done) | (simp; omega)) _) | (with_reducible refine bl_call ?_ (by assumption))))⟩
theorem hi_zero (N : Nat) : hiN 0 N = 0 := by unfold St.hiN; rw [Nat.zero_mul, Nat.zero_div]
theorem hi_last {N : Nat} (h : 0 < N) (h2 : N < 18446744073709551616) : hiN 18446744073709551615 N = N - 1 := by
  unfold St.hiN; omega
theorem ext_one {op a b n : Int} {lv lw : Nat} {V W : Nat → Int} {u : Nat} (h4 : op ≠ 4) : extV (errD op a b n lv lw V W) op a b n lv V W u = atV (errD op a b n lv lw V W) op a b lv V W u := by
  unfold extV atV atB tkV
  by_cases hE : errD op a b n lv lw V W = 0
  · rw [if_pos hE, if_neg h4, if_pos (decide_eq_true ⟨hE, h4⟩), Int.one_mul]
  · rw [if_neg hE, if_neg (by simp [hE])]
theorem rleast_any (op a b n : Int) (p : Option Addr) (lv c : Nat) (q : Option Addr) (lw f : Nat) (V W : Nat → Int) (w : World) (hV : Row w p lv V) (hW : Row w q lw W) : Calls Tryd.prog 33 #[.agg #[.int .i64 op, .int .i64 a, .int .i64 b, .int .i64 n, .slice p lv c, .slice q lw f]] w (Gives (.int .i64 (lstV op a b n lv lw V W)) w) := by
  have CH := Lib.hid fun (w2 : World) (hb : Below w.heap.size w w2) => rcheck_any op a b n p lv c q lw f V W w2 (hV.on hb) (hW.on hb)
  have AT := Lib.hid fun (w2 : World) (hb : Below w.heap.size w w2) => rat_any op a b n p lv c q lw f V W 0 (by decide) w2 (hV.on hb) (hW.on hb)
  unfold lstV
  by_cases hE : errD op a b n lv lw V W = 0
  · by_cases h4 : op = 4
    · subst h4
      have hA := acc_of hE
      rw [hE] at CH ⊢
      rcases hA with ⟨h, -⟩ | ⟨h, -⟩ | ⟨h, -⟩ | ⟨-, h1, h2, h3, h4, h5⟩ | ⟨h, -⟩
      any_goals exact absurd h (by decide)
      refine rleast_sum a b n p lv c q lw f w _ ?_ CH
      have e : extV 0 4 a b n lv V W 0 = n * a := by
        show n * uniV a b 0 = n * a
        unfold uniV; rw [hi_zero]; rw [show a + ((0 : Nat) : Int) = a by omega]
      rw [e]
      have h6 : 0 ≤ n * a := Int.mul_nonneg (by omega) h3
      have h7 : n * a ≤ 20 * 1000000 := Int.mul_le_mul h2 (by omega) h3 (by decide)
      rw [IntKind.wrap_i64]; omega
    · rw [ext_one h4]
      exact rleast_at op a b n p lv c q lw f _ (.inr ⟨by rw [hE]; rfl, by rw [beq_eq_false_iff_ne]; exact h4⟩) _ _ w CH AT
  · have e : extV (errD op a b n lv lw V W) op a b n lv V W 0 = atV (errD op a b n lv lw V W) op a b lv V W 0 := by
      unfold extV atV atB; rw [if_neg hE, if_neg (by simp [hE])]
    rw [e]
    exact rleast_at op a b n p lv c q lw f _ (.inl (by rw [beq_eq_false_iff_ne]; exact hE)) _ _ w CH AT
theorem rmost_any (op a b n : Int) (p : Option Addr) (lv c : Nat) (q : Option Addr) (lw f : Nat) (V W : Nat → Int) (w : World) (hV : Row w p lv V) (hW : Row w q lw W) : Calls Tryd.prog 35 #[.agg #[.int .i64 op, .int .i64 a, .int .i64 b, .int .i64 n, .slice p lv c, .slice q lw f]] w (Gives (.int .i64 (mstV op a b n lv lw V W)) w) := by
  have CH := Lib.hid fun (w2 : World) (hb : Below w.heap.size w w2) => rcheck_any op a b n p lv c q lw f V W w2 (hV.on hb) (hW.on hb)
  have AT := Lib.hid fun (w2 : World) (hb : Below w.heap.size w w2) => rat_any op a b n p lv c q lw f V W 18446744073709551615 (by decide) w2 (hV.on hb) (hW.on hb)
  unfold mstV
  by_cases hE : errD op a b n lv lw V W = 0
  · by_cases h4 : op = 4
    · subst h4
      have hA := acc_of hE
      rw [hE] at CH ⊢
      rcases hA with ⟨h, -⟩ | ⟨h, -⟩ | ⟨h, -⟩ | ⟨-, h1, h2, h3, h4, h5⟩ | ⟨h, -⟩
      any_goals exact absurd h (by decide)
      refine rmost_sum a b n p lv c q lw f w _ ?_ CH
      have e : extV 0 4 a b n lv V W 18446744073709551615 = n * b := by
        show n * uniV a b 18446744073709551615 = n * b
        unfold uniV; rw [hi_last (by omega) (by omega)]; congr 1; omega
      rw [e]
      have h6 : 0 ≤ n * b := Int.mul_nonneg (by omega) (by omega)
      have h7 : n * b ≤ 20 * 1000000 := Int.mul_le_mul h2 (by omega) (by omega) (by decide)
      rw [IntKind.wrap_i64]; omega
    · rw [ext_one h4]
      exact rmost_at op a b n p lv c q lw f _ (.inr ⟨by rw [hE]; rfl, by rw [beq_eq_false_iff_ne]; exact h4⟩) _ _ w CH AT
  · have e : extV (errD op a b n lv lw V W) op a b n lv V W 18446744073709551615 = atV (errD op a b n lv lw V W) op a b lv V W 18446744073709551615 := by
      unfold extV atV atB; rw [if_neg hE, if_neg (by simp [hE])]
    rw [e]
    exact rmost_at op a b n p lv c q lw f _ (.inl (by rw [beq_eq_false_iff_ne]; exact hE)) _ _ w CH AT
end Go.Proofs.YteapicfobammjaaDoor.Di
