/-
  Several parts of this proof in one text.
-/
import Derived.Test.YtonlmnlpofgccaaGreatDCheck2
/-
  The contracts of the reference's unused, table, Check.
-/
namespace Go.Proofs.YtonlmnlpofgccaaGreat.Di
open Go.RowKit
set_option maxHeartbeats 2000000
theorem len0 {m : Nat} (h : m ≠ 0) : ((m : Int) == 0) = false := by rw [beq_eq_false_iff_ne]; omega
/-- Both lists empty, or not: as the walk asks it. -/
theorem lists2 (m l : Nat) : (m = 0 ∧ l = 0) ∨ (m = 0 ∧ l ≠ 0 ∧ ((l : Int) == 0) = false) ∨ (m ≠ 0 ∧ ((m : Int) == 0) = false) := by
  by_cases h : m = 0
  · by_cases h2 : l = 0
    · exact .inl ⟨h, h2⟩
    · exact .inr (.inl ⟨h, h2, len0 h2⟩)
  · exact .inr (.inr ⟨h, len0 h⟩)
theorem runused_any (op a b n : Int) (p : Option Addr) (lv c : Nat) (q : Option Addr) (lw f : Nat) (w : World) : Calls Tryz.prog 80 #[.agg #[.int .i64 op, .int .i64 a, .int .i64 b, .int .i64 n, .slice p lv c, .slice q lw f]] w (Gives (.bool (unB op a b n lv lw)) w) := by
  have hop : op = 1 ∨ op = 2 ∨ op = 3 ∨ op = 4 ∨ op = 5 ∨ ((op == 1) = false ∧ (op == 2) = false ∧ (op == 3) = false ∧ (op == 4) = false ∧ (op == 5) = false ∧ unB op a b n lv lw = false) := by
    by_cases h : op = 1 ∨ op = 2 ∨ op = 3 ∨ op = 4 ∨ op = 5
    · rcases h with h | h | h | h | h <;> simp [h]
    · refine .inr (.inr (.inr (.inr (.inr ⟨?_, ?_, ?_, ?_, ?_, ?_⟩))))
      all_goals first | (rw [beq_eq_false_iff_ne]; omega) | (unfold unB; rw [if_neg (by omega), if_neg (by omega), if_neg (by omega), if_neg (by omega), if_neg (by omega)])
  rcases lists2 lv lw with ⟨rfl, rfl⟩ | ⟨rfl, h1, h2⟩ | ⟨h1, h2⟩
  all_goals
    rcases hop with rfl | rfl | rfl | rfl | rfl | ⟨e1, e2, e3, e4, e5, e6⟩
    · cases hb : (b == 0) <;> cases hn : (n == 0)
      all_goals
        go_enter Tryz.func80, Tryz.ntmps80
        go_wp2_with fail
        go_ret
        exact ⟨ret_bool (by simp [unB, *]), by (repeat (first | (with_reducible exact Below.refl _ _) | (with_reducible assumption) | (with_reducible apply bl_alloc) | (with_reducible apply bl_drewN) | (with_reducible apply bl_drew) | (with_reducible refine bl_set ?_ (by first | (simp; done) | (simp; omega)) _) | (with_reducible refine bl_call ?_ (by assumption))))⟩
    · cases hn : (n == 0)
      all_goals
        go_enter Tryz.func80, Tryz.ntmps80
        go_wp2_with fail
        go_ret
        exact ⟨ret_bool (by simp [unB, *]), by (repeat (first | (with_reducible exact Below.refl _ _) | (with_reducible assumption) | (with_reducible apply bl_alloc) | (with_reducible apply bl_drewN) | (with_reducible apply bl_drew) | (with_reducible refine bl_set ?_ (by first | (simp; done) | (simp; omega)) _) | (with_reducible refine bl_call ?_ (by assumption))))⟩
    · cases ha : (a == 0) <;> cases hb : (b == 0) <;> cases hn : (n == 0)
      all_goals
        go_enter Tryz.func80, Tryz.ntmps80
        go_wp2_with fail
        go_ret
        exact ⟨ret_bool (by simp [unB, *]), by (repeat (first | (with_reducible exact Below.refl _ _) | (with_reducible assumption) | (with_reducible apply bl_alloc) | (with_reducible apply bl_drewN) | (with_reducible apply bl_drew) | (with_reducible refine bl_set ?_ (by first | (simp; done) | (simp; omega)) _) | (with_reducible refine bl_call ?_ (by assumption))))⟩
    · go_enter Tryz.func80, Tryz.ntmps80
      go_wp2_with fail
      go_ret
      exact ⟨ret_bool (by simp [unB, *]), by (repeat (first | (with_reducible exact Below.refl _ _) | (with_reducible assumption) | (with_reducible apply bl_alloc) | (with_reducible apply bl_drewN) | (with_reducible apply bl_drew) | (with_reducible refine bl_set ?_ (by first | (simp; done) | (simp; omega)) _) | (with_reducible refine bl_call ?_ (by assumption))))⟩
    · cases hn : (n == 0)
      all_goals
        go_enter Tryz.func80, Tryz.ntmps80
        go_wp2_with fail
        go_ret
        exact ⟨ret_bool (by simp [unB, *]), by (repeat (first | (with_reducible exact Below.refl _ _) | (with_reducible assumption) | (with_reducible apply bl_alloc) | (with_reducible apply bl_drewN) | (with_reducible apply bl_drew) | (with_reducible refine bl_set ?_ (by first | (simp; done) | (simp; omega)) _) | (with_reducible refine bl_call ?_ (by assumption))))⟩
    · rw [e6]
      clear e6
      go_enter Tryz.func80, Tryz.ntmps80
      go_wp2_with fail
      go_ret
      exact ⟨rfl, by (repeat (first | (with_reducible exact Below.refl _ _) | (with_reducible assumption) | (with_reducible apply bl_alloc) | (with_reducible apply bl_drewN) | (with_reducible apply bl_drew) | (with_reducible refine bl_set ?_ (by first | (simp; done) | (simp; omega)) _) | (with_reducible refine bl_call ?_ (by assumption))))⟩
end Go.Proofs.YtonlmnlpofgccaaGreat.Di

/-
  The contracts of the reference's table and Check.
-/
namespace Go.Proofs.YtonlmnlpofgccaaGreat.Di
open Go.RowKit
set_option maxHeartbeats 2000000
def bE (x : Bool) : Int := if x = true then 0 else 2
def tabE (lv lw : Nat) (V W : Nat → Int) : Int := if lenE lv lw = 0 then bE (allB 0 1000000000 V lv && allB 1 1000 W lw) else lenE lv lw
theorem both_no1 {V W : Nat → Int} {k n : Nat} (h : k < n) (h2 : inB 0 (V k) 1000000000 = false) : (allB 0 1000000000 V n && allB 1 1000 W n) = false := by rw [← allB_end h h2]; rfl
theorem both_no2 {V W : Nat → Int} {k n : Nat} (h : k < n) (h2 : inB 1 (W k) 1000 = false) : (allB 0 1000000000 V n && allB 1 1000 W n) = false := by rw [← allB_end (V := W) h h2, Bool.and_false]
theorem tab_len (n m : Nat) (V W : Nat → Int) (h : lenE n m ≠ 0) : tabE n m V W = lenE n m := by unfold tabE; rw [if_neg h]
theorem rtable_any (x0 a b n : Int) (p : Option Addr) (lv c : Nat) (q : Option Addr) (lw f : Nat) (V W : Nat → Int) (w : World) (hV : Row w p lv V) (hW : Row w q lw W) :
    Calls Tryz.prog 82 #[.agg #[.int .i64 x0, .int .i64 a, .int .i64 b, .int .i64 n, .slice p lv c, .slice q lw f]] w (Gives (.int .i64 (tabE lv lw V W)) w) := by
  by_cases h : lv = lw
  · subst h
    by_cases h0 : lv = 0
    · subst h0
      go_enter Tryz.func82, Tryz.ntmps82
      go_wp2_with fail
      go_ret
      exact ⟨rfl, by (repeat (first | (with_reducible exact Below.refl _ _) | (with_reducible assumption) | (with_reducible apply bl_alloc) | (with_reducible apply bl_drewN) | (with_reducible apply bl_drew) | (with_reducible refine bl_set ?_ (by first | (simp; done) | (simp; omega)) _) | (with_reducible refine bl_call ?_ (by assumption))))⟩
    · have h1 : ((lv : Int) == 0) = false := by rw [beq_eq_false_iff_ne]; omega
      by_cases h2 : 20 < lv
      · have hr : tabE lv lv V W = 6 := by unfold tabE lenE; rw [if_pos rfl, if_neg h0, if_pos h2]; rfl
        rw [hr]
        have h3 : (20 : Int) < (lv : Int) := by omega
        clear h0 hr
        go_enter Tryz.func82, Tryz.ntmps82
        go_wp2_with fail
        go_ret
        exact ⟨rfl, by (repeat (first | (with_reducible exact Below.refl _ _) | (with_reducible assumption) | (with_reducible apply bl_alloc) | (with_reducible apply bl_drewN) | (with_reducible apply bl_drew) | (with_reducible refine bl_set ?_ (by first | (simp; done) | (simp; omega)) _) | (with_reducible refine bl_call ?_ (by assumption))))⟩
      · have hr : tabE lv lv V W = bE (allB 0 1000000000 V lv && allB 1 1000 W lv) := by unfold tabE lenE; rw [if_pos rfl, if_neg h0, if_neg h2]; rfl
        rw [hr]
        have h3 : decide ((20 : Int) < (lv : Int)) = false := decide_eq_false (by omega)
        obtain ⟨hl, hv | ⟨b1, o1, rfl, hb1, hc1⟩⟩ := hV
        · exact absurd hv h0
        obtain ⟨-, hw | ⟨b2, o2, rfl, hb2, hc2⟩⟩ := hW
        · exact absurd hw h0
        clear h0 hr h2
        go_enter Tryz.func82, Tryz.ntmps82
        go_wp2_with fail
        go_loop [3] (fun i => ∃ k : Nat, k ≤ lv ∧ i = .int .i64 k ∧ Hid (allB 0 1000000000 V k = true) ∧ Hid (allB 1 1000 W k = true)) (fun i => lv - (intOf i).toNat)
        case atStart => exact ⟨0, Nat.zero_le _, rfl, Lib.hid rfl, Lib.hid rfl⟩
        case round =>
          obtain ⟨k, hk, rfl, HA, HB⟩ := hrel
          rcases Nat.lt_or_ge k lv with h | h
          · have e1 := (keep_alloc (x := .cells #[.int .i64 x0, .int .i64 a, .int .i64 b, .int .i64 n, .slice (some ⟨b1, o1, none⟩) lv c, .slice (some ⟨b2, o2, none⟩) lv f] 37) (hc1.out k h) hb1)
            have e2 := (keep_alloc (x := .cells #[.int .i64 x0, .int .i64 a, .int .i64 b, .int .i64 n, .slice (some ⟨b1, o1, none⟩) lv c, .slice (some ⟨b2, o2, none⟩) lv f] 37) (hc2.out k h) hb2)
            have c1 : (0 : Int) ≤ (k : Int) := by omega
            have c2 : (k : Int) < (lv : Int) := by omega
            cases hi' : inB 0 (V k) 1000000000
            · have H := Lib.hid hi'
              have hz := Lib.hid (both_no1 (W := W) h hi')
              clear hi'
              go_wp2_with fail
              refine (rbtw_any _ _ _ _).mono ?_
              rintro e w1 ⟨rfl, rfl⟩
              rw [H.out]
              go_wp2_with fail
              go_ret
              exact ⟨by rw [hz.out]; rfl, by (repeat (first | (with_reducible exact Below.refl _ _) | (with_reducible assumption) | (with_reducible apply bl_alloc) | (with_reducible apply bl_drewN) | (with_reducible apply bl_drew) | (with_reducible refine bl_set ?_ (by first | (simp; done) | (simp; omega)) _) | (with_reducible refine bl_call ?_ (by assumption))))⟩
            · have H := Lib.hid hi'
              clear hi'
              cases hj' : inB 1 (W k) 1000
              · have J := Lib.hid hj'
                have hz := Lib.hid (both_no2 (V := V) h hj')
                clear hj'
                go_wp2_with fail
                refine (rbtw_any _ _ _ _).mono ?_
                rintro e w1 ⟨rfl, rfl⟩
                rw [H.out]
                go_wp2_with fail
                refine (rbtw_any _ _ _ _).mono ?_
                rintro e w1 ⟨rfl, rfl⟩
                rw [J.out]
                go_wp2_with fail
                go_ret
                exact ⟨by rw [hz.out]; rfl, by (repeat (first | (with_reducible exact Below.refl _ _) | (with_reducible assumption) | (with_reducible apply bl_alloc) | (with_reducible apply bl_drewN) | (with_reducible apply bl_drew) | (with_reducible refine bl_set ?_ (by first | (simp; done) | (simp; omega)) _) | (with_reducible refine bl_call ?_ (by assumption))))⟩
              · have J := Lib.hid hj'
                clear hj'
                go_wp2_with fail
                refine (rbtw_any _ _ _ _).mono ?_
                rintro e w1 ⟨rfl, rfl⟩
                rw [H.out]
                go_wp2_with fail
                refine (rbtw_any _ _ _ _).mono ?_
                rintro e w1 ⟨rfl, rfl⟩
                rw [J.out]
                go_wp2_with fail
                go_round
                case rel => exact ⟨k + 1, by omega, by go_num, Lib.hid (allB_next HA.out H.out), Lib.hid (allB_next HB.out J.out)⟩
                case measure => simp [intOf]; omega
          · obtain rfl : lv = k := by omega
            go_wp2_with fail
            go_ret
            exact ⟨by rw [HA.out, HB.out]; rfl, by (repeat (first | (with_reducible exact Below.refl _ _) | (with_reducible assumption) | (with_reducible apply bl_alloc) | (with_reducible apply bl_drewN) | (with_reducible apply bl_drew) | (with_reducible refine bl_set ?_ (by first | (simp; done) | (simp; omega)) _) | (with_reducible refine bl_call ?_ (by assumption))))⟩
  · have hr : tabE lv lw V W = 8 := by unfold tabE lenE; rw [if_neg h]; rfl
    rw [hr]
    have h1 : ((lv : Int) != (lw : Int)) = true := by rw [bne_iff_ne]; omega
    have h2 : (lv != lw) = true := by rw [bne_iff_ne]; exact h
    clear hr
    go_enter Tryz.func82, Tryz.ntmps82
    go_wp2_with fail
    go_ret
    exact ⟨rfl, by (repeat (first | (with_reducible exact Below.refl _ _) | (with_reducible assumption) | (with_reducible apply bl_alloc) | (with_reducible apply bl_drewN) | (with_reducible apply bl_drew) | (with_reducible refine bl_set ?_ (by first | (simp; done) | (simp; omega)) _) | (with_reducible refine bl_call ?_ (by assumption))))⟩
end Go.Proofs.YtonlmnlpofgccaaGreat.Di

/-
  The contract of the reference's Check.
-/
namespace Go.Proofs.YtonlmnlpofgccaaGreat.Di
open Go.RowKit
set_option maxHeartbeats 2000000
theorem err_no {op a b n : Int} {lv lw : Nat} {V W : Nat → Int} (h : unB op a b n lv lw = false) : errD op a b n lv lw V W = 1 := by unfold errD errW; rw [h]; rfl
theorem err_yes {op a b n : Int} {lv lw : Nat} {V W : Nat → Int} (h : unB op a b n lv lw = true) (h3 : op ≠ 3) : errD op a b n lv lw V W = bE (rngB op a b n lv lw V W) := by unfold errD errW; rw [h, if_pos rfl, if_neg h3]; rfl
theorem err_three {a b n : Int} {lv lw : Nat} {V W : Nat → Int} (h : unB 3 a b n lv lw = true) : errD 3 a b n lv lw V W = tabE lv lw V W := by unfold errD errW; rw [h, if_pos rfl, if_pos rfl]; rfl
theorem rc1 (a b n : Int) (p : Option Addr) (lv c : Nat) (q : Option Addr) (lw f : Nat) (w : World) (HU : Hid (unB 1 a b n lv lw = true)) :
    Calls Tryz.prog 56 #[.agg #[.int .i64 1, .int .i64 a, .int .i64 b, .int .i64 n, .slice p lv c, .slice q lw f]] w (Gives (.int .i64 (bE (inB 0 a 1000000000))) w) := by
  cases h : inB 0 a 1000000000
  all_goals
    have H := Lib.hid h
    clear h
    go_enter Tryz.func56, Tryz.ntmps56
    go_wp2_with fail
    refine (runused_any _ _ _ _ _ _ _ _ _ _ _).mono ?_
    rintro e w1 ⟨rfl, hb1⟩
    rw [HU.out]
    have D1 := six.on hb1 six.new
    obtain ⟨d0, d1, d2, d3, d4, d5, d6⟩ := D1
    go_wp2_with fail
    refine (rbtw_any _ _ _ _).mono ?_
    rintro e w2 ⟨rfl, rfl⟩
    rw [H.out]
    go_wp2_with fail
    (go_ret; exact ⟨rfl, by (repeat (first | (with_reducible exact Below.refl _ _) | (with_reducible assumption) | (with_reducible apply bl_alloc) | (with_reducible apply bl_drewN) | (with_reducible apply bl_drew) | (with_reducible refine bl_set ?_ (by first | (simp; done) | (simp; omega)) _) | (with_reducible refine bl_call ?_ (by assumption))))⟩)
theorem rc2 (a b n : Int) (p : Option Addr) (lv c : Nat) (q : Option Addr) (lw f : Nat) (w : World) (HU : Hid (unB 2 a b n lv lw = true)) :
    Calls Tryz.prog 56 #[.agg #[.int .i64 2, .int .i64 a, .int .i64 b, .int .i64 n, .slice p lv c, .slice q lw f]] w (Gives (.int .i64 (bE (inB 0 a b && decide (b ≤ 1000000000)))) w) := by
  cases h : inB 0 a b
  · have H := Lib.hid h
    clear h
    rw [Bool.false_and]
    go_enter Tryz.func56, Tryz.ntmps56
    go_wp2_with fail
    refine (runused_any _ _ _ _ _ _ _ _ _ _ _).mono ?_
    rintro e w1 ⟨rfl, hb1⟩
    rw [HU.out]
    have D1 := six.on hb1 six.new
    obtain ⟨d0, d1, d2, d3, d4, d5, d6⟩ := D1
    go_wp2_with fail
    refine (rbtw_any _ _ _ _).mono ?_
    rintro e w2 ⟨rfl, rfl⟩
    rw [H.out]
    go_wp2_with fail
    (go_ret; exact ⟨rfl, by (repeat (first | (with_reducible exact Below.refl _ _) | (with_reducible assumption) | (with_reducible apply bl_alloc) | (with_reducible apply bl_drewN) | (with_reducible apply bl_drew) | (with_reducible refine bl_set ?_ (by first | (simp; done) | (simp; omega)) _) | (with_reducible refine bl_call ?_ (by assumption))))⟩)
  · cases h2 : decide (b ≤ 1000000000)
    all_goals
      have H := Lib.hid h
      clear h
      rw [Bool.true_and]
      go_enter Tryz.func56, Tryz.ntmps56
      go_wp2_with fail
      refine (runused_any _ _ _ _ _ _ _ _ _ _ _).mono ?_
      rintro e w1 ⟨rfl, hb1⟩
      rw [HU.out]
      have D1 := six.on hb1 six.new
      obtain ⟨d0, d1, d2, d3, d4, d5, d6⟩ := D1
      go_wp2_with fail
      refine (rbtw_any _ _ _ _).mono ?_
      rintro e w2 ⟨rfl, rfl⟩
      rw [H.out]
      go_wp2_with fail
      (go_ret; exact ⟨rfl, by (repeat (first | (with_reducible exact Below.refl _ _) | (with_reducible assumption) | (with_reducible apply bl_alloc) | (with_reducible apply bl_drewN) | (with_reducible apply bl_drew) | (with_reducible refine bl_set ?_ (by first | (simp; done) | (simp; omega)) _) | (with_reducible refine bl_call ?_ (by assumption))))⟩)
theorem rc4 (a b n : Int) (p : Option Addr) (lv c : Nat) (q : Option Addr) (lw f : Nat) (w : World) (HU : Hid (unB 4 a b n lv lw = true)) :
    Calls Tryz.prog 56 #[.agg #[.int .i64 4, .int .i64 a, .int .i64 b, .int .i64 n, .slice p lv c, .slice q lw f]] w (Gives (.int .i64 (bE (inB 1 n 20 && inB 0 a b && decide (b ≤ 1000000)))) w) := by
  cases h0 : inB 1 n 20
  · have H := Lib.hid h0
    clear h0
    rw [Bool.false_and, Bool.false_and]
    go_enter Tryz.func56, Tryz.ntmps56
    go_wp2_with fail
    refine (runused_any _ _ _ _ _ _ _ _ _ _ _).mono ?_
    rintro e w1 ⟨rfl, hb1⟩
    rw [HU.out]
    have D1 := six.on hb1 six.new
    obtain ⟨d0, d1, d2, d3, d4, d5, d6⟩ := D1
    go_wp2_with fail
    refine (rbtw_any _ _ _ _).mono ?_
    rintro e w2 ⟨rfl, rfl⟩
    rw [H.out]
    go_wp2_with fail
    (go_ret; exact ⟨rfl, by (repeat (first | (with_reducible exact Below.refl _ _) | (with_reducible assumption) | (with_reducible apply bl_alloc) | (with_reducible apply bl_drewN) | (with_reducible apply bl_drew) | (with_reducible refine bl_set ?_ (by first | (simp; done) | (simp; omega)) _) | (with_reducible refine bl_call ?_ (by assumption))))⟩)
  have G := Lib.hid h0
  clear h0
  rw [Bool.true_and]
  cases h : inB 0 a b
  · have H := Lib.hid h
    clear h
    rw [Bool.false_and]
    go_enter Tryz.func56, Tryz.ntmps56
    go_wp2_with fail
    refine (runused_any _ _ _ _ _ _ _ _ _ _ _).mono ?_
    rintro e w1 ⟨rfl, hb1⟩
    rw [HU.out]
    have D1 := six.on hb1 six.new
    obtain ⟨d0, d1, d2, d3, d4, d5, d6⟩ := D1
    go_wp2_with fail
    refine (rbtw_any _ _ _ _).mono ?_
    rintro e w2 ⟨rfl, rfl⟩
    rw [G.out]
    go_wp2_with fail
    refine (rbtw_any _ _ _ _).mono ?_
    rintro e w2 ⟨rfl, rfl⟩
    rw [H.out]
    go_wp2_with fail
    (go_ret; exact ⟨rfl, by (repeat (first | (with_reducible exact Below.refl _ _) | (with_reducible assumption) | (with_reducible apply bl_alloc) | (with_reducible apply bl_drewN) | (with_reducible apply bl_drew) | (with_reducible refine bl_set ?_ (by first | (simp; done) | (simp; omega)) _) | (with_reducible refine bl_call ?_ (by assumption))))⟩)
  · cases h2 : decide (b ≤ 1000000)
    all_goals
      have H := Lib.hid h
      clear h
      rw [Bool.true_and]
      go_enter Tryz.func56, Tryz.ntmps56
      go_wp2_with fail
      refine (runused_any _ _ _ _ _ _ _ _ _ _ _).mono ?_
      rintro e w1 ⟨rfl, hb1⟩
      rw [HU.out]
      have D1 := six.on hb1 six.new
      obtain ⟨d0, d1, d2, d3, d4, d5, d6⟩ := D1
      go_wp2_with fail
      refine (rbtw_any _ _ _ _).mono ?_
      rintro e w2 ⟨rfl, rfl⟩
      rw [G.out]
      go_wp2_with fail
      refine (rbtw_any _ _ _ _).mono ?_
      rintro e w2 ⟨rfl, rfl⟩
      rw [H.out]
      go_wp2_with fail
      (go_ret; exact ⟨rfl, by (repeat (first | (with_reducible exact Below.refl _ _) | (with_reducible assumption) | (with_reducible apply bl_alloc) | (with_reducible apply bl_drewN) | (with_reducible apply bl_drew) | (with_reducible refine bl_set ?_ (by first | (simp; done) | (simp; omega)) _) | (with_reducible refine bl_call ?_ (by assumption))))⟩)
theorem rc5 (a b n : Int) (p : Option Addr) (lv c : Nat) (q : Option Addr) (lw f : Nat) (w : World) (HU : Hid (unB 5 a b n lv lw = true)) :
    Calls Tryz.prog 56 #[.agg #[.int .i64 5, .int .i64 a, .int .i64 b, .int .i64 n, .slice p lv c, .slice q lw f]] w (Gives (.int .i64 (bE (inB 1 a 1000 && inB 1 b 1000))) w) := by
  cases h : inB 1 a 1000
  · have H := Lib.hid h
    clear h
    rw [Bool.false_and]
    go_enter Tryz.func56, Tryz.ntmps56
    go_wp2_with fail
    refine (runused_any _ _ _ _ _ _ _ _ _ _ _).mono ?_
    rintro e w1 ⟨rfl, hb1⟩
    rw [HU.out]
    have D1 := six.on hb1 six.new
    obtain ⟨d0, d1, d2, d3, d4, d5, d6⟩ := D1
    go_wp2_with fail
    refine (rbtw_any _ _ _ _).mono ?_
    rintro e w2 ⟨rfl, rfl⟩
    rw [H.out]
    go_wp2_with fail
    (go_ret; exact ⟨rfl, by (repeat (first | (with_reducible exact Below.refl _ _) | (with_reducible assumption) | (with_reducible apply bl_alloc) | (with_reducible apply bl_drewN) | (with_reducible apply bl_drew) | (with_reducible refine bl_set ?_ (by first | (simp; done) | (simp; omega)) _) | (with_reducible refine bl_call ?_ (by assumption))))⟩)
  · cases h2 : inB 1 b 1000
    all_goals
      have H := Lib.hid h
      have H2 := Lib.hid h2
      clear h h2
      rw [Bool.true_and]
      go_enter Tryz.func56, Tryz.ntmps56
      go_wp2_with fail
      refine (runused_any _ _ _ _ _ _ _ _ _ _ _).mono ?_
      rintro e w1 ⟨rfl, hb1⟩
      rw [HU.out]
      have D1 := six.on hb1 six.new
      obtain ⟨d0, d1, d2, d3, d4, d5, d6⟩ := D1
      go_wp2_with fail
      refine (rbtw_any _ _ _ _).mono ?_
      rintro e w2 ⟨rfl, rfl⟩
      rw [H.out]
      go_wp2_with fail
      refine (rbtw_any _ _ _ _).mono ?_
      rintro e w2 ⟨rfl, rfl⟩
      rw [H2.out]
      go_wp2_with fail
      (go_ret; exact ⟨rfl, by (repeat (first | (with_reducible exact Below.refl _ _) | (with_reducible assumption) | (with_reducible apply bl_alloc) | (with_reducible apply bl_drewN) | (with_reducible apply bl_drew) | (with_reducible refine bl_set ?_ (by first | (simp; done) | (simp; omega)) _) | (with_reducible refine bl_call ?_ (by assumption))))⟩)
theorem rc3 (a b n : Int) (p : Option Addr) (lv c : Nat) (q : Option Addr) (lw f : Nat) (V W : Nat → Int) (w : World) (hV : Row w p lv V) (hW : Row w q lw W) (HU : Hid (unB 3 a b n lv lw = true)) :
    Calls Tryz.prog 56 #[.agg #[.int .i64 3, .int .i64 a, .int .i64 b, .int .i64 n, .slice p lv c, .slice q lw f]] w (Gives (.int .i64 (tabE lv lw V W)) w) := by
  go_enter Tryz.func56, Tryz.ntmps56
  go_wp2_with fail
  refine (runused_any _ _ _ _ _ _ _ _ _ _ _).mono ?_
  rintro e w1 ⟨rfl, hb1⟩
  rw [HU.out]
  have D1 := six.on hb1 six.new
  obtain ⟨d0, d1, d2, d3, d4, d5, d6⟩ := D1
  go_wp2_with fail
  refine (rtable_any _ _ _ _ _ _ _ _ _ _ V W _ (hV.alloc.on hb1) (hW.alloc.on hb1)).mono ?_
  rintro e w2 ⟨rfl, hb2⟩
  go_wp2_with fail
  (go_ret; exact ⟨rfl, by (repeat (first | (with_reducible exact Below.refl _ _) | (with_reducible assumption) | (with_reducible apply bl_alloc) | (with_reducible apply bl_drewN) | (with_reducible apply bl_drew) | (with_reducible refine bl_set ?_ (by first | (simp; done) | (simp; omega)) _) | (with_reducible refine bl_call ?_ (by assumption))))⟩)
theorem rcheck_any (op a b n : Int) (p : Option Addr) (lv c : Nat) (q : Option Addr) (lw f : Nat) (V W : Nat → Int) (w : World) (hV : Row w p lv V) (hW : Row w q lw W) : Calls Tryz.prog 56 #[.agg #[.int .i64 op, .int .i64 a, .int .i64 b, .int .i64 n, .slice p lv c, .slice q lw f]] w (Gives (.int .i64 (errD op a b n lv lw V W)) w) := by
  cases hu : unB op a b n lv lw
  · rw [err_no hu]
    have HU := Lib.hid hu
    clear hu
    go_enter Tryz.func56, Tryz.ntmps56
    go_wp2_with fail
    refine (runused_any _ _ _ _ _ _ _ _ _ _ _).mono ?_
    rintro e w1 ⟨rfl, hb1⟩
    rw [HU.out]
    go_wp2_with fail
    (go_ret; exact ⟨rfl, by (repeat (first | (with_reducible exact Below.refl _ _) | (with_reducible assumption) | (with_reducible apply bl_alloc) | (with_reducible apply bl_drewN) | (with_reducible apply bl_drew) | (with_reducible refine bl_set ?_ (by first | (simp; done) | (simp; omega)) _) | (with_reducible refine bl_call ?_ (by assumption))))⟩)
  · have h : op = 1 ∨ op = 2 ∨ op = 3 ∨ op = 4 ∨ op = 5 := by
      by_cases h1 : op = 1; · exact .inl h1
      by_cases h2 : op = 2; · exact .inr (.inl h2)
      by_cases h3 : op = 3; · exact .inr (.inr (.inl h3))
      by_cases h4 : op = 4; · exact .inr (.inr (.inr (.inl h4)))
      by_cases h5 : op = 5; · exact .inr (.inr (.inr (.inr h5)))
      unfold unB at hu
      rw [if_neg h1, if_neg h2, if_neg h3, if_neg h4, if_neg h5] at hu
      cases hu
    rcases h with rfl | rfl | rfl | rfl | rfl
    · rw [err_yes hu (by decide)]; exact rc1 a b n p lv c q lw f w (Lib.hid hu)
    · rw [err_yes hu (by decide)]; exact rc2 a b n p lv c q lw f w (Lib.hid hu)
    · rw [err_three hu]; exact rc3 a b n p lv c q lw f V W w hV hW (Lib.hid hu)
    · rw [err_yes hu (by decide)]; exact rc4 a b n p lv c q lw f w (Lib.hid hu)
    · rw [err_yes hu (by decide)]; exact rc5 a b n p lv c q lw f w (Lib.hid hu)
end Go.Proofs.YtonlmnlpofgccaaGreat.Di
