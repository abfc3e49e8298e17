/-
  The contract of package dist's Check, at every distribution.
-/
import Derived.Test.YtonlmnlpofgccaaGreatDCheck
namespace Go.Proofs.YtonlmnlpofgccaaGreat.Di
open Go.RowKit
set_option maxHeartbeats 2000000
def errW (op : Int) (u : Bool) (E : Int) (r : Bool) : Int := if u = true then (if op = 3 then (if E = 0 then (if r = true then 0 else 2) else E) else (if r = true then 0 else 2)) else 1
theorem check_in (op a b n : Int) (p : Option Addr) (lv c : Nat) (q : Option Addr) (lw f : Nat) (k1 : decide (op < 1) = false) (k5 : decide (5 < op) = false) (x : Value) (u r : Bool) (E : Int) (w : World)
    (U : Hid (∀ w2, Calls Tryz.prog 49 #[.agg #[.int .i64 op, .int .i64 a, .int .i64 b, .int .i64 n, .slice p lv c, .slice q lw f]] w2 (Gives x w2)))
    (S : Hid (∀ w2, Below w.heap.size w w2 → Calls Tryz.prog 44 #[x, .agg #[.int .i64 op, .int .i64 0, .int .i64 0, .int .i64 0, .slice none 0 0, .slice none 0 0]] w2 (Gives (.bool u) w2)))
    (I : Hid (∀ w2, Below w.heap.size w w2 → Calls Tryz.prog 51 #[.agg #[.int .i64 op, .int .i64 a, .int .i64 b, .int .i64 n, .slice p lv c, .slice q lw f]] w2 (Gives (.bool r) w2)))
    (L : Hid (∀ w2, Calls Tryz.prog 50 #[.int .i64 lv, .int .i64 lw] w2 fun e w' => e = .returned (.int .i64 E) ∧ w2 = w')) :
    Calls Tryz.prog 38 #[.agg #[.int .i64 op, .int .i64 a, .int .i64 b, .int .i64 n, .slice p lv c, .slice q lw f]] w (Gives (.int .i64 (errW op u E r)) w) := by
  unfold errW
  cases u
  · rw [if_neg (by decide)]
    go_enter Tryz.func38, Tryz.ntmps38
    go_wp2_with fail
    go_region_held3 (fun w' => w'.cell? ⟨w.heap.size, 0, none⟩ = some (.int .i64 op) ∧ w'.cell? ⟨w.heap.size, 1, none⟩ = some (.int .i64 a) ∧ w'.cell? ⟨w.heap.size, 2, none⟩ = some (.int .i64 b) ∧ w'.cell? ⟨w.heap.size, 3, none⟩ = some (.int .i64 n) ∧ w'.cell? ⟨w.heap.size, 4, none⟩ = some (.slice p lv c) ∧ w'.cell? ⟨w.heap.size, 5, none⟩ = some (.slice q lw f)) (first | (with_reducible exact six.keep D2) | (with_reducible exact six.keep D1) | (with_reducible exact six.keep six.new.drew) | (with_reducible exact six.keep six.new) | (go_keep; done)) (first | (go_at_call 49; refine (U.out _).mono ?_; rintro e w1 ⟨rfl, hb1⟩; have D1 := six.on hb1 six.new.drew) | (go_at_call 44; refine (S.out _ (by (repeat (first | (with_reducible exact Below.refl _ _) | (with_reducible assumption) | (with_reducible apply bl_alloc) | (with_reducible apply bl_drewN) | (with_reducible apply bl_drew) | (with_reducible refine bl_set ?_ (by first | (simp; done) | (simp; omega)) _) | (with_reducible refine bl_call ?_ (by assumption)))))).mono ?_; rintro e w2 ⟨rfl, hb2⟩; have D2 := six.on hb2 D1))
    all_goals
      go_wp2_with fail
      go_ret
      exact ⟨rfl, by (repeat (first | (with_reducible exact Below.refl _ _) | (with_reducible assumption) | (with_reducible apply bl_alloc) | (with_reducible apply bl_drewN) | (with_reducible apply bl_drew) | (with_reducible refine bl_set ?_ (by first | (simp; done) | (simp; omega)) _) | (with_reducible refine bl_call ?_ (by assumption))))⟩
  · rw [if_pos rfl]
    by_cases h3 : op = 3
    · subst h3
      rw [if_pos rfl]
      by_cases hE : E = 0
      · subst hE
        rw [if_pos rfl]
        cases r
        · rw [if_neg (by decide)]
          go_enter Tryz.func38, Tryz.ntmps38
          go_wp2_with fail
          go_region_held3 (fun w' => w'.cell? ⟨w.heap.size, 0, none⟩ = some (.int .i64 3) ∧ w'.cell? ⟨w.heap.size, 1, none⟩ = some (.int .i64 a) ∧ w'.cell? ⟨w.heap.size, 2, none⟩ = some (.int .i64 b) ∧ w'.cell? ⟨w.heap.size, 3, none⟩ = some (.int .i64 n) ∧ w'.cell? ⟨w.heap.size, 4, none⟩ = some (.slice p lv c) ∧ w'.cell? ⟨w.heap.size, 5, none⟩ = some (.slice q lw f)) (first | (with_reducible exact six.keep D2) | (with_reducible exact six.keep D1) | (with_reducible exact six.keep six.new.drew) | (with_reducible exact six.keep six.new) | (go_keep; done)) (first | (go_at_call 49; refine (U.out _).mono ?_; rintro e w1 ⟨rfl, hb1⟩; have D1 := six.on hb1 six.new.drew) | (go_at_call 44; refine (S.out _ (by (repeat (first | (with_reducible exact Below.refl _ _) | (with_reducible assumption) | (with_reducible apply bl_alloc) | (with_reducible apply bl_drewN) | (with_reducible apply bl_drew) | (with_reducible refine bl_set ?_ (by first | (simp; done) | (simp; omega)) _) | (with_reducible refine bl_call ?_ (by assumption)))))).mono ?_; rintro e w2 ⟨rfl, hb2⟩; have D2 := six.on hb2 D1))
          all_goals
            obtain ⟨d0, d1, d2, d3, d4, d5, d6⟩ := D2
            have D2 : six _ _ _ _ _ _ _ _ := ⟨d0, d1, d2, d3, d4, d5, d6⟩
            go_wp2_with fail
            refine (L.out _).mono ?_
            rintro e w3 ⟨rfl, rfl⟩
            go_wp2_with fail
            refine (I.out _ (by (repeat (first | (with_reducible exact Below.refl _ _) | (with_reducible assumption) | (with_reducible apply bl_alloc) | (with_reducible apply bl_drewN) | (with_reducible apply bl_drew) | (with_reducible refine bl_set ?_ (by first | (simp; done) | (simp; omega)) _) | (with_reducible refine bl_call ?_ (by assumption)))))).mono ?_
            rintro e w4 ⟨rfl, hb4⟩
            go_wp2_with fail
            go_ret
            exact ⟨rfl, by (repeat (first | (with_reducible exact Below.refl _ _) | (with_reducible assumption) | (with_reducible apply bl_alloc) | (with_reducible apply bl_drewN) | (with_reducible apply bl_drew) | (with_reducible refine bl_set ?_ (by first | (simp; done) | (simp; omega)) _) | (with_reducible refine bl_call ?_ (by assumption))))⟩
        · rw [if_pos rfl]
          go_enter Tryz.func38, Tryz.ntmps38
          go_wp2_with fail
          go_region_held3 (fun w' => w'.cell? ⟨w.heap.size, 0, none⟩ = some (.int .i64 3) ∧ w'.cell? ⟨w.heap.size, 1, none⟩ = some (.int .i64 a) ∧ w'.cell? ⟨w.heap.size, 2, none⟩ = some (.int .i64 b) ∧ w'.cell? ⟨w.heap.size, 3, none⟩ = some (.int .i64 n) ∧ w'.cell? ⟨w.heap.size, 4, none⟩ = some (.slice p lv c) ∧ w'.cell? ⟨w.heap.size, 5, none⟩ = some (.slice q lw f)) (first | (with_reducible exact six.keep D2) | (with_reducible exact six.keep D1) | (with_reducible exact six.keep six.new.drew) | (with_reducible exact six.keep six.new) | (go_keep; done)) (first | (go_at_call 49; refine (U.out _).mono ?_; rintro e w1 ⟨rfl, hb1⟩; have D1 := six.on hb1 six.new.drew) | (go_at_call 44; refine (S.out _ (by (repeat (first | (with_reducible exact Below.refl _ _) | (with_reducible assumption) | (with_reducible apply bl_alloc) | (with_reducible apply bl_drewN) | (with_reducible apply bl_drew) | (with_reducible refine bl_set ?_ (by first | (simp; done) | (simp; omega)) _) | (with_reducible refine bl_call ?_ (by assumption)))))).mono ?_; rintro e w2 ⟨rfl, hb2⟩; have D2 := six.on hb2 D1))
          all_goals
            obtain ⟨d0, d1, d2, d3, d4, d5, d6⟩ := D2
            have D2 : six _ _ _ _ _ _ _ _ := ⟨d0, d1, d2, d3, d4, d5, d6⟩
            go_wp2_with fail
            refine (L.out _).mono ?_
            rintro e w3 ⟨rfl, rfl⟩
            go_wp2_with fail
            refine (I.out _ (by (repeat (first | (with_reducible exact Below.refl _ _) | (with_reducible assumption) | (with_reducible apply bl_alloc) | (with_reducible apply bl_drewN) | (with_reducible apply bl_drew) | (with_reducible refine bl_set ?_ (by first | (simp; done) | (simp; omega)) _) | (with_reducible refine bl_call ?_ (by assumption)))))).mono ?_
            rintro e w4 ⟨rfl, hb4⟩
            go_wp2_with fail
            go_ret
            exact ⟨rfl, by (repeat (first | (with_reducible exact Below.refl _ _) | (with_reducible assumption) | (with_reducible apply bl_alloc) | (with_reducible apply bl_drewN) | (with_reducible apply bl_drew) | (with_reducible refine bl_set ?_ (by first | (simp; done) | (simp; omega)) _) | (with_reducible refine bl_call ?_ (by assumption))))⟩
      · rw [if_neg hE]
        have hE2 : (E != 0) = true := by rw [bne_iff_ne]; exact hE
        clear hE
        go_enter Tryz.func38, Tryz.ntmps38
        go_wp2_with fail
        go_region_held3 (fun w' => w'.cell? ⟨w.heap.size, 0, none⟩ = some (.int .i64 3) ∧ w'.cell? ⟨w.heap.size, 1, none⟩ = some (.int .i64 a) ∧ w'.cell? ⟨w.heap.size, 2, none⟩ = some (.int .i64 b) ∧ w'.cell? ⟨w.heap.size, 3, none⟩ = some (.int .i64 n) ∧ w'.cell? ⟨w.heap.size, 4, none⟩ = some (.slice p lv c) ∧ w'.cell? ⟨w.heap.size, 5, none⟩ = some (.slice q lw f)) (first | (with_reducible exact six.keep D2) | (with_reducible exact six.keep D1) | (with_reducible exact six.keep six.new.drew) | (with_reducible exact six.keep six.new) | (go_keep; done)) (first | (go_at_call 49; refine (U.out _).mono ?_; rintro e w1 ⟨rfl, hb1⟩; have D1 := six.on hb1 six.new.drew) | (go_at_call 44; refine (S.out _ (by (repeat (first | (with_reducible exact Below.refl _ _) | (with_reducible assumption) | (with_reducible apply bl_alloc) | (with_reducible apply bl_drewN) | (with_reducible apply bl_drew) | (with_reducible refine bl_set ?_ (by first | (simp; done) | (simp; omega)) _) | (with_reducible refine bl_call ?_ (by assumption)))))).mono ?_; rintro e w2 ⟨rfl, hb2⟩; have D2 := six.on hb2 D1))
        all_goals
          obtain ⟨d0, d1, d2, d3, d4, d5, d6⟩ := D2
          have D2 : six _ _ _ _ _ _ _ _ := ⟨d0, d1, d2, d3, d4, d5, d6⟩
          go_wp2_with fail
          refine (L.out _).mono ?_
          rintro e w3 ⟨rfl, rfl⟩
          go_wp2_with fail
          go_ret
          exact ⟨rfl, by (repeat (first | (with_reducible exact Below.refl _ _) | (with_reducible assumption) | (with_reducible apply bl_alloc) | (with_reducible apply bl_drewN) | (with_reducible apply bl_drew) | (with_reducible refine bl_set ?_ (by first | (simp; done) | (simp; omega)) _) | (with_reducible refine bl_call ?_ (by assumption))))⟩
    · rw [if_neg h3]
      have h4 : (op == 3) = false := by rw [beq_eq_false_iff_ne]; exact h3
      clear h3
      cases r
      · rw [if_neg (by decide)]
        go_enter Tryz.func38, Tryz.ntmps38
        go_wp2_with fail
        go_region_held3 (fun w' => w'.cell? ⟨w.heap.size, 0, none⟩ = some (.int .i64 op) ∧ w'.cell? ⟨w.heap.size, 1, none⟩ = some (.int .i64 a) ∧ w'.cell? ⟨w.heap.size, 2, none⟩ = some (.int .i64 b) ∧ w'.cell? ⟨w.heap.size, 3, none⟩ = some (.int .i64 n) ∧ w'.cell? ⟨w.heap.size, 4, none⟩ = some (.slice p lv c) ∧ w'.cell? ⟨w.heap.size, 5, none⟩ = some (.slice q lw f)) (first | (with_reducible exact six.keep D2) | (with_reducible exact six.keep D1) | (with_reducible exact six.keep six.new.drew) | (with_reducible exact six.keep six.new) | (go_keep; done)) (first | (go_at_call 49; refine (U.out _).mono ?_; rintro e w1 ⟨rfl, hb1⟩; have D1 := six.on hb1 six.new.drew) | (go_at_call 44; refine (S.out _ (by (repeat (first | (with_reducible exact Below.refl _ _) | (with_reducible assumption) | (with_reducible apply bl_alloc) | (with_reducible apply bl_drewN) | (with_reducible apply bl_drew) | (with_reducible refine bl_set ?_ (by first | (simp; done) | (simp; omega)) _) | (with_reducible refine bl_call ?_ (by assumption)))))).mono ?_; rintro e w2 ⟨rfl, hb2⟩; have D2 := six.on hb2 D1))
        all_goals
          obtain ⟨d0, d1, d2, d3, d4, d5, d6⟩ := D2
          have D2 : six _ _ _ _ _ _ _ _ := ⟨d0, d1, d2, d3, d4, d5, d6⟩
          go_wp2_with fail
          refine (I.out _ (by (repeat (first | (with_reducible exact Below.refl _ _) | (with_reducible assumption) | (with_reducible apply bl_alloc) | (with_reducible apply bl_drewN) | (with_reducible apply bl_drew) | (with_reducible refine bl_set ?_ (by first | (simp; done) | (simp; omega)) _) | (with_reducible refine bl_call ?_ (by assumption)))))).mono ?_
          rintro e w4 ⟨rfl, hb4⟩
          go_wp2_with fail
          go_ret
          exact ⟨rfl, by (repeat (first | (with_reducible exact Below.refl _ _) | (with_reducible assumption) | (with_reducible apply bl_alloc) | (with_reducible apply bl_drewN) | (with_reducible apply bl_drew) | (with_reducible refine bl_set ?_ (by first | (simp; done) | (simp; omega)) _) | (with_reducible refine bl_call ?_ (by assumption))))⟩
      · rw [if_pos rfl]
        go_enter Tryz.func38, Tryz.ntmps38
        go_wp2_with fail
        go_region_held3 (fun w' => w'.cell? ⟨w.heap.size, 0, none⟩ = some (.int .i64 op) ∧ w'.cell? ⟨w.heap.size, 1, none⟩ = some (.int .i64 a) ∧ w'.cell? ⟨w.heap.size, 2, none⟩ = some (.int .i64 b) ∧ w'.cell? ⟨w.heap.size, 3, none⟩ = some (.int .i64 n) ∧ w'.cell? ⟨w.heap.size, 4, none⟩ = some (.slice p lv c) ∧ w'.cell? ⟨w.heap.size, 5, none⟩ = some (.slice q lw f)) (first | (with_reducible exact six.keep D2) | (with_reducible exact six.keep D1) | (with_reducible exact six.keep six.new.drew) | (with_reducible exact six.keep six.new) | (go_keep; done)) (first | (go_at_call 49; refine (U.out _).mono ?_; rintro e w1 ⟨rfl, hb1⟩; have D1 := six.on hb1 six.new.drew) | (go_at_call 44; refine (S.out _ (by (repeat (first | (with_reducible exact Below.refl _ _) | (with_reducible assumption) | (with_reducible apply bl_alloc) | (with_reducible apply bl_drewN) | (with_reducible apply bl_drew) | (with_reducible refine bl_set ?_ (by first | (simp; done) | (simp; omega)) _) | (with_reducible refine bl_call ?_ (by assumption)))))).mono ?_; rintro e w2 ⟨rfl, hb2⟩; have D2 := six.on hb2 D1))
        all_goals
          obtain ⟨d0, d1, d2, d3, d4, d5, d6⟩ := D2
          have D2 : six _ _ _ _ _ _ _ _ := ⟨d0, d1, d2, d3, d4, d5, d6⟩
          go_wp2_with fail
          refine (I.out _ (by (repeat (first | (with_reducible exact Below.refl _ _) | (with_reducible assumption) | (with_reducible apply bl_alloc) | (with_reducible apply bl_drewN) | (with_reducible apply bl_drew) | (with_reducible refine bl_set ?_ (by first | (simp; done) | (simp; omega)) _) | (with_reducible refine bl_call ?_ (by assumption)))))).mono ?_
          rintro e w4 ⟨rfl, hb4⟩
          go_wp2_with fail
          go_ret
          exact ⟨rfl, by (repeat (first | (with_reducible exact Below.refl _ _) | (with_reducible assumption) | (with_reducible apply bl_alloc) | (with_reducible apply bl_drewN) | (with_reducible apply bl_drew) | (with_reducible refine bl_set ?_ (by first | (simp; done) | (simp; omega)) _) | (with_reducible refine bl_call ?_ (by assumption))))⟩
def unB (op a b n : Int) (lv lw : Nat) : Bool :=
  if op = 1 then b == 0 && (n == 0 && (lv == 0 && lw == 0))
  else if op = 2 then n == 0 && (lv == 0 && lw == 0)
  else if op = 3 then a == 0 && (b == 0 && n == 0)
  else if op = 4 then lv == 0 && lw == 0
  else if op = 5 then n == 0 && (lv == 0 && lw == 0)
  else false
def rngB (op a b n : Int) (lv lw : Nat) (V W : Nat → Int) : Bool :=
  if op = 1 then inB 0 a 1000000000
  else if op = 2 then inB 0 a b && decide (b ≤ 1000000000)
  else if op = 3 then allB 0 1000000000 V lv && allB 1 1000 W lw
  else if op = 4 then inB 1 n 20 && inB 0 a b && decide (b ≤ 1000000)
  else inB 1 a 1000 && inB 1 b 1000
/-- What Check answers. -/
def errD (op a b n : Int) (lv lw : Nat) (V W : Nat → Int) : Int := errW op (unB op a b n lv lw) (lenE lv lw) (rngB op a b n lv lw V W)
theorem eqL_zero (m : Nat) (V Z : Nat → Int) : eqL m 0 V Z = (m == 0) := by
  unfold eqL
  cases h : (m == 0)
  · rfl
  · rw [beq_iff_eq.1 h]; rfl
theorem row_nil (w : World) (V : Nat → Int) : Row w none 0 V := ⟨Nat.zero_le _, .inl rfl⟩
theorem same_nil (op a b n op2 a2 b2 n2 : Int) (lv lw : Nat) (V W Z : Nat → Int) : sameD op a b n lv lw V W op2 a2 b2 n2 0 0 Z Z = (op == op2 && (a == a2 && (b == b2 && (n == n2 && (lv == 0 && lw == 0))))) := by
  unfold sameD; rw [eqL_zero, eqL_zero]
def Z0 (_ : Nat) : Int := 0
theorem check_any (op a b n : Int) (p : Option Addr) (lv c : Nat) (q : Option Addr) (lw f : Nat) (V W : Nat → Int) (w : World) (hV : Row w p lv V) (hW : Row w q lw W) : Calls Tryz.prog 38 #[.agg #[.int .i64 op, .int .i64 a, .int .i64 b, .int .i64 n, .slice p lv c, .slice q lw f]] w (Gives (.int .i64 (errD op a b n lv lw V W)) w) := by
  by_cases ho : op < 1 ∨ 5 < op
  · have e : errD op a b n lv lw V W = 1 := by
      have : unB op a b n lv lw = false := by unfold unB; rw [if_neg (by omega), if_neg (by omega), if_neg (by omega), if_neg (by omega), if_neg (by omega)]
      unfold errD errW; rw [this]; rfl
    rw [e]
    exact check_out op _ _ _ _ _ ho w
  · have h : op = 1 ∨ op = 2 ∨ op = 3 ∨ op = 4 ∨ op = 5 := by omega
    clear ho
    rcases h with rfl | rfl | rfl | rfl | rfl
    · have S1 := fun (w2 : World) (hb : Below w.heap.size w w2) => same_any 1 0 b n p lv c q lw f V W 1 0 0 0 none 0 0 none 0 0 Z0 Z0 w2 (hV.on hb) (hW.on hb) (row_nil _ _) (row_nil _ _)
      simp only [same_nil] at S1
      exact check_in 1 a b n p lv c q lw f (by decide) (by decide) _ _ _ _ w (Lib.hid (unused1 a b n p lv c q lw f)) (Lib.hid S1) (Lib.hid fun w2 _ => rng1 a _ _ _ _ w2) (Lib.hid (lens_any lv lw))
    · have S1 := fun (w2 : World) (hb : Below w.heap.size w w2) => same_any 2 0 0 n p lv c q lw f V W 2 0 0 0 none 0 0 none 0 0 Z0 Z0 w2 (hV.on hb) (hW.on hb) (row_nil _ _) (row_nil _ _)
      simp only [same_nil] at S1
      exact check_in 2 a b n p lv c q lw f (by decide) (by decide) _ _ _ _ w (Lib.hid (unused2 a b n p lv c q lw f)) (Lib.hid S1) (Lib.hid fun w2 _ => rng2 a b _ _ _ w2) (Lib.hid (lens_any lv lw))
    · have S1 := fun (w2 : World) (_ : Below w.heap.size w w2) => same_any 3 a b n none 0 0 none 0 0 Z0 Z0 3 0 0 0 none 0 0 none 0 0 Z0 Z0 w2 (row_nil _ _) (row_nil _ _) (row_nil _ _) (row_nil _ _)
      have e : unB 3 a b n lv lw = sameD 3 a b n 0 0 Z0 Z0 3 0 0 0 0 0 Z0 Z0 := by
        rw [same_nil]; show (a == 0 && (b == 0 && n == 0)) = _
        simp
      unfold errD
      rw [e]
      exact check_in 3 a b n p lv c q lw f (by decide) (by decide) _ _ _ _ w (Lib.hid (unused3 a b n p lv c q lw f)) (Lib.hid S1) (Lib.hid fun w2 hb => rng3 _ _ _ p lv c q lw f V W w2 (hV.on hb) (hW.on hb)) (Lib.hid (lens_any lv lw))
    · have S1 := fun (w2 : World) (hb : Below w.heap.size w w2) => same_any 4 0 0 0 p lv c q lw f V W 4 0 0 0 none 0 0 none 0 0 Z0 Z0 w2 (hV.on hb) (hW.on hb) (row_nil _ _) (row_nil _ _)
      simp only [same_nil] at S1
      exact check_in 4 a b n p lv c q lw f (by decide) (by decide) _ _ _ _ w (Lib.hid (unused4 a b n p lv c q lw f)) (Lib.hid S1) (Lib.hid fun w2 _ => rng4 a b n _ _ w2) (Lib.hid (lens_any lv lw))
    · have S1 := fun (w2 : World) (hb : Below w.heap.size w w2) => same_any 5 0 0 n p lv c q lw f V W 5 0 0 0 none 0 0 none 0 0 Z0 Z0 w2 (hV.on hb) (hW.on hb) (row_nil _ _) (row_nil _ _)
      simp only [same_nil] at S1
      exact check_in 5 a b n p lv c q lw f (by decide) (by decide) _ _ _ _ w (Lib.hid (unused5 a b n p lv c q lw f)) (Lib.hid S1) (Lib.hid fun w2 _ => rng5 a b _ _ _ w2) (Lib.hid (lens_any lv lw))
end Go.Proofs.YtonlmnlpofgccaaGreat.Di
