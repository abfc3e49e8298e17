/-
  The contract of the reference's Check.
-/
import Derived.Test.YteapicfobammjaaDoorDRefTable
namespace Go.Proofs.YteapicfobammjaaDoor.Di
open Go.RowKit
set_option maxHeartbeats 2000000
theorem err_no {op a b n : Int} {lv lw : Nat} {V W : Nat → Int} (h : unB op a b n lv lw = false) : errD op a b n lv lw V W = 1 := by unfold errD errW; rw [h]; rfl
theorem err_yes {op a b n : Int} {lv lw : Nat} {V W : Nat → Int} (h : unB op a b n lv lw = true) (h3 : op ≠ 3) : errD op a b n lv lw V W = bE (rngB op a b n lv lw V W) := by unfold errD errW; rw [h, if_pos rfl, if_neg h3]; rfl
theorem err_three {a b n : Int} {lv lw : Nat} {V W : Nat → Int} (h : unB 3 a b n lv lw = true) : errD 3 a b n lv lw V W = tabE lv lw V W := by unfold errD errW; rw [h, if_pos rfl, if_pos rfl]; rfl
theorem rc1 (a b n : Int) (p : Option Addr) (lv c : Nat) (q : Option Addr) (lw f : Nat) (w : World) (HU : Hid (unB 1 a b n lv lw = true)) :
    Calls Tryd.prog 25 #[.agg #[.int .i64 1, .int .i64 a, .int .i64 b, .int .i64 n, .slice p lv c, .slice q lw f]] w (Gives (.int .i64 (bE (inB 0 a 1000000000))) w) := by
  cases h : inB 0 a 1000000000
  all_goals
    have H := Lib.hid h
    clear h
    go_enter Tryd.func25, Tryd.ntmps25
    go_wp2_with fail
    refine (runused_any _ _ _ _ _ _ _ _ _ _ _).mono ?_
    rintro e w1 ⟨rfl, hb1⟩
    rw [HU.out]
    have D1 := six.on hb1 six.new
    obtain ⟨d0, d1, d2, d3, d4, d5, d6⟩ := D1
    go_wp2_with fail
    refine (rbtw_any _ _ _ _).mono ?_
    rintro e w2 ⟨rfl, rfl⟩
    rw [H.out]
    go_wp2_with fail
    (go_ret; exact ⟨rfl, by (repeat (first | (with_reducible exact Below.refl _ _) | (with_reducible assumption) | (with_reducible apply bl_alloc) | (with_reducible apply bl_drewN) | (with_reducible apply bl_drew) | (with_reducible refine bl_set ?_ (by first | (simp; done) | (simp; omega)) _) | (with_reducible refine bl_call ?_ (by assumption))))⟩)
theorem rc2 (a b n : Int) (p : Option Addr) (lv c : Nat) (q : Option Addr) (lw f : Nat) (w : World) (HU : Hid (unB 2 a b n lv lw = true)) :
    Calls Tryd.prog 25 #[.agg #[.int .i64 2, .int .i64 a, .int .i64 b, .int .i64 n, .slice p lv c, .slice q lw f]] w (Gives (.int .i64 (bE (inB 0 a b && decide (b ≤ 1000000000)))) w) := by
  cases h : inB 0 a b
  · have H := Lib.hid h
    clear h
    rw [Bool.false_and]
    go_enter Tryd.func25, Tryd.ntmps25
    go_wp2_with fail
    refine (runused_any _ _ _ _ _ _ _ _ _ _ _).mono ?_
    rintro e w1 ⟨rfl, hb1⟩
    rw [HU.out]
    have D1 := six.on hb1 six.new
    obtain ⟨d0, d1, d2, d3, d4, d5, d6⟩ := D1
    go_wp2_with fail
    refine (rbtw_any _ _ _ _).mono ?_
    rintro e w2 ⟨rfl, rfl⟩
    rw [H.out]
    go_wp2_with fail
    (go_ret; exact ⟨rfl, by (repeat (first | (with_reducible exact Below.refl _ _) | (with_reducible assumption) | (with_reducible apply bl_alloc) | (with_reducible apply bl_drewN) | (with_reducible apply bl_drew) | (with_reducible refine bl_set ?_ (by first | (simp; done) | (simp; omega)) _) | (with_reducible refine bl_call ?_ (by assumption))))⟩)
  · cases h2 : decide (b ≤ 1000000000)
    all_goals
      have H := Lib.hid h
      clear h
      rw [Bool.true_and]
      go_enter Tryd.func25, Tryd.ntmps25
      go_wp2_with fail
      refine (runused_any _ _ _ _ _ _ _ _ _ _ _).mono ?_
      rintro e w1 ⟨rfl, hb1⟩
      rw [HU.out]
      have D1 := six.on hb1 six.new
      obtain ⟨d0, d1, d2, d3, d4, d5, d6⟩ := D1
      go_wp2_with fail
      refine (rbtw_any _ _ _ _).mono ?_
      rintro e w2 ⟨rfl, rfl⟩
      rw [H.out]
      go_wp2_with fail
      (go_ret; exact ⟨rfl, by (repeat (first | (with_reducible exact Below.refl _ _) | (with_reducible assumption) | (with_reducible apply bl_alloc) | (with_reducible apply bl_drewN) | (with_reducible apply bl_drew) | (with_reducible refine bl_set ?_ (by first | (simp; done) | (simp; omega)) _) | (with_reducible refine bl_call ?_ (by assumption))))⟩)
theorem rc4 (a b n : Int) (p : Option Addr) (lv c : Nat) (q : Option Addr) (lw f : Nat) (w : World) (HU : Hid (unB 4 a b n lv lw = true)) :
    Calls Tryd.prog 25 #[.agg #[.int .i64 4, .int .i64 a, .int .i64 b, .int .i64 n, .slice p lv c, .slice q lw f]] w (Gives (.int .i64 (bE (inB 1 n 20 && inB 0 a b && decide (b ≤ 1000000)))) w) := by
  cases h0 : inB 1 n 20
  · have H := Lib.hid h0
    clear h0
    rw [Bool.false_and, Bool.false_and]
    go_enter Tryd.func25, Tryd.ntmps25
    go_wp2_with fail
    refine (runused_any _ _ _ _ _ _ _ _ _ _ _).mono ?_
    rintro e w1 ⟨rfl, hb1⟩
    rw [HU.out]
    have D1 := six.on hb1 six.new
    obtain ⟨d0, d1, d2, d3, d4, d5, d6⟩ := D1
    go_wp2_with fail
    refine (rbtw_any _ _ _ _).mono ?_
    rintro e w2 ⟨rfl, rfl⟩
    rw [H.out]
    go_wp2_with fail
    (go_ret; exact ⟨rfl, by (repeat (first | (with_reducible exact Below.refl _ _) | (with_reducible assumption) | (with_reducible apply bl_alloc) | (with_reducible apply bl_drewN) | (with_reducible apply bl_drew) | (with_reducible refine bl_set ?_ (by first | (simp; done) | (simp; omega)) _) | (with_reducible refine bl_call ?_ (by assumption))))⟩)
  have G := Lib.hid h0
  clear h0
  rw [Bool.true_and]
  cases h : inB 0 a b
  · have H := Lib.hid h
    clear h
    rw [Bool.false_and]
    go_enter Tryd.func25, Tryd.ntmps25
    go_wp2_with fail
    refine (runused_any _ _ _ _ _ _ _ _ _ _ _).mono ?_
    rintro e w1 ⟨rfl, hb1⟩
    rw [HU.out]
    have D1 := six.on hb1 six.new
    obtain ⟨d0, d1, d2, d3, d4, d5, d6⟩ := D1
    go_wp2_with fail
    refine (rbtw_any _ _ _ _).mono ?_
    rintro e w2 ⟨rfl, rfl⟩
    rw [G.out]
    go_wp2_with fail
    refine (rbtw_any _ _ _ _).mono ?_
    rintro e w2 ⟨rfl, rfl⟩
    rw [H.out]
    go_wp2_with fail
    (go_ret; exact ⟨rfl, by (repeat (first | (with_reducible exact Below.refl _ _) | (with_reducible assumption) | (with_reducible apply bl_alloc) | (with_reducible apply bl_drewN) | (with_reducible apply bl_drew) | (with_reducible refine bl_set ?_ (by first | (simp; done) | (simp; omega)) _) | (with_reducible refine bl_call ?_ (by assumption))))⟩)
  · cases h2 : decide (b ≤ 1000000)
    all_goals
      have H := Lib.hid h
      clear h
      rw [Bool.true_and]
      go_enter Tryd.func25, Tryd.ntmps25
      go_wp2_with fail
      refine (runused_any _ _ _ _ _ _ _ _ _ _ _).mono ?_
      rintro e w1 ⟨rfl, hb1⟩
      rw [HU.out]
      have D1 := six.on hb1 six.new
      obtain ⟨d0, d1, d2, d3, d4, d5, d6⟩ := D1
      go_wp2_with fail
      refine (rbtw_any _ _ _ _).mono ?_
      rintro e w2 ⟨rfl, rfl⟩
      rw [G.out]
      go_wp2_with fail
      refine (rbtw_any _ _ _ _).mono ?_
      rintro e w2 ⟨rfl, rfl⟩
      rw [H.out]
      go_wp2_with fail
      (go_ret; exact ⟨rfl, by (repeat (first | (with_reducible exact Below.refl _ _) | (with_reducible assumption) | (with_reducible apply bl_alloc) | (with_reducible apply bl_drewN) | (with_reducible apply bl_drew) | (with_reducible refine bl_set ?_ (by first | (simp; done) | (simp; omega)) _) | (with_reducible refine bl_call ?_ (by assumption))))⟩)
theorem rc5 (a b n : Int) (p : Option Addr) (lv c : Nat) (q : Option Addr) (lw f : Nat) (w : World) (HU : Hid (unB 5 a b n lv lw = true)) :
    Calls Tryd.prog 25 #[.agg #[.int .i64 5, .int .i64 a, .int .i64 b, .int .i64 n, .slice p lv c, .slice q lw f]] w (Gives (.int .i64 (bE (inB 1 a 1000 && inB 1 b 1000))) w) := by
  cases h : inB 1 a 1000
  · have H := Lib.hid h
    clear h
    rw [Bool.false_and]
    go_enter Tryd.func25, Tryd.ntmps25
    go_wp2_with fail
    refine (runused_any _ _ _ _ _ _ _ _ _ _ _).mono ?_
    rintro e w1 ⟨rfl, hb1⟩
    rw [HU.out]
    have D1 := six.on hb1 six.new
    obtain ⟨d0, d1, d2, d3, d4, d5, d6⟩ := D1
    go_wp2_with fail
    refine (rbtw_any _ _ _ _).mono ?_
    rintro e w2 ⟨rfl, rfl⟩
    rw [H.out]
    go_wp2_with fail
    (go_ret; exact ⟨rfl, by (repeat (first | (with_reducible exact Below.refl _ _) | (with_reducible assumption) | (with_reducible apply bl_alloc) | (with_reducible apply bl_drewN) | (with_reducible apply bl_drew) | (with_reducible refine bl_set ?_ (by first | (simp; done) | (simp; omega)) _) | (with_reducible refine bl_call ?_ (by assumption))))⟩)
  · cases h2 : inB 1 b 1000
    all_goals
      have H := Lib.hid h
      have H2 := Lib.hid h2
      clear h h2
      rw [Bool.true_and]
      go_enter Tryd.func25, Tryd.ntmps25
      go_wp2_with fail
      refine (runused_any _ _ _ _ _ _ _ _ _ _ _).mono ?_
      rintro e w1 ⟨rfl, hb1⟩
      rw [HU.out]
      have D1 := six.on hb1 six.new
      obtain ⟨d0, d1, d2, d3, d4, d5, d6⟩ := D1
      go_wp2_with fail
      refine (rbtw_any _ _ _ _).mono ?_
      rintro e w2 ⟨rfl, rfl⟩
      rw [H.out]
      go_wp2_with fail
      refine (rbtw_any _ _ _ _).mono ?_
      rintro e w2 ⟨rfl, rfl⟩
      rw [H2.out]
      go_wp2_with fail
      (go_ret; exact ⟨rfl, by (repeat (first | (with_reducible exact Below.refl _ _) | (with_reducible assumption) | (with_reducible apply bl_alloc) | (with_reducible apply bl_drewN) | (with_reducible apply bl_drew) | (with_reducible refine bl_set ?_ (by first | (simp; done) | (simp; omega)) _) | (with_reducible refine bl_call ?_ (by assumption))))⟩)
theorem rc3 (a b n : Int) (p : Option Addr) (lv c : Nat) (q : Option Addr) (lw f : Nat) (V W : Nat → Int) (w : World) (hV : Row w p lv V) (hW : Row w q lw W) (HU : Hid (unB 3 a b n lv lw = true)) :
    Calls Tryd.prog 25 #[.agg #[.int .i64 3, .int .i64 a, .int .i64 b, .int .i64 n, .slice p lv c, .slice q lw f]] w (Gives (.int .i64 (tabE lv lw V W)) w) := by
  go_enter Tryd.func25, Tryd.ntmps25
  go_wp2_with fail
  refine (runused_any _ _ _ _ _ _ _ _ _ _ _).mono ?_
  rintro e w1 ⟨rfl, hb1⟩
  rw [HU.out]
  have D1 := six.on hb1 six.new
  obtain ⟨d0, d1, d2, d3, d4, d5, d6⟩ := D1
  go_wp2_with fail
  refine (rtable_any _ _ _ _ _ _ _ _ _ _ V W _ (hV.alloc.on hb1) (hW.alloc.on hb1)).mono ?_
  rintro e w2 ⟨rfl, hb2⟩
  go_wp2_with fail
  (go_ret; exact ⟨rfl, by (repeat (first | (with_reducible exact Below.refl _ _) | (with_reducible assumption) | (with_reducible apply bl_alloc) | (with_reducible apply bl_drewN) | (with_reducible apply bl_drew) | (with_reducible refine bl_set ?_ (by first | (simp; done) | (simp; omega)) _) | (with_reducible refine bl_call ?_ (by assumption))))⟩)
theorem rcheck_any (op a b n : Int) (p : Option Addr) (lv c : Nat) (q : Option Addr) (lw f : Nat) (V W : Nat → Int) (w : World) (hV : Row w p lv V) (hW : Row w q lw W) : Calls Tryd.prog 25 #[.agg #[.int .i64 op, .int .i64 a, .int .i64 b, .int .i64 n, .slice p lv c, .slice q lw f]] w (Gives (.int .i64 (errD op a b n lv lw V W)) w) := by
  cases hu : unB op a b n lv lw
  · rw [err_no hu]
    have HU := Lib.hid hu
    clear hu
    go_enter Tryd.func25, Tryd.ntmps25
    go_wp2_with fail
    refine (runused_any _ _ _ _ _ _ _ _ _ _ _).mono ?_
    rintro e w1 ⟨rfl, hb1⟩
    rw [HU.out]
    go_wp2_with fail
    (go_ret; exact ⟨rfl, by (repeat (first | (with_reducible exact Below.refl _ _) | (with_reducible assumption) | (with_reducible apply bl_alloc) | (with_reducible apply bl_drewN) | (with_reducible apply bl_drew) | (with_reducible refine bl_set ?_ (by first | (simp; done) | (simp; omega)) _) | (with_reducible refine bl_call ?_ (by assumption))))⟩)
  · have h : op = 1 ∨ op = 2 ∨ op = 3 ∨ op = 4 ∨ op = 5 := by
      by_cases h1 : op = 1; · exact .inl h1
      by_cases h2 : op = 2; · exact .inr (.inl h2)
      by_cases h3 : op = 3; · exact .inr (.inr (.inl h3))
      by_cases h4 : op = 4; · exact .inr (.inr (.inr (.inl h4)))
      by_cases h5 : op = 5; · exact .inr (.inr (.inr (.inr h5)))
      unfold unB at hu
      rw [if_neg h1, if_neg h2, if_neg h3, if_neg h4, if_neg h5] at hu
      cases hu
    rcases h with rfl | rfl | rfl | rfl | rfl
    · rw [err_yes hu (by decide)]; exact rc1 a b n p lv c q lw f w (Lib.hid hu)
    · rw [err_yes hu (by decide)]; exact rc2 a b n p lv c q lw f w (Lib.hid hu)
    · rw [err_three hu]; exact rc3 a b n p lv c q lw f V W w hV hW (Lib.hid hu)
    · rw [err_yes hu (by decide)]; exact rc4 a b n p lv c q lw f w (Lib.hid hu)
    · rw [err_yes hu (by decide)]; exact rc5 a b n p lv c q lw f w (Lib.hid hu)
end Go.Proofs.YteapicfobammjaaDoor.Di
