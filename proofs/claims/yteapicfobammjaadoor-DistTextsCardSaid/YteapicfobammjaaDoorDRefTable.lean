/-
  The contracts of the reference's table and Check.
-/
import Derived.Test.YteapicfobammjaaDoorDRefCheck
namespace Go.Proofs.YteapicfobammjaaDoor.Di
open Go.RowKit
set_option maxHeartbeats 2000000
def bE (x : Bool) : Int := if x = true then 0 else 2
def tabE (lv lw : Nat) (V W : Nat → Int) : Int := if lenE lv lw = 0 then bE (allB 0 1000000000 V lv && allB 1 1000 W lw) else lenE lv lw
theorem both_no1 {V W : Nat → Int} {k n : Nat} (h : k < n) (h2 : inB 0 (V k) 1000000000 = false) : (allB 0 1000000000 V n && allB 1 1000 W n) = false := by rw [← allB_end h h2]; rfl
theorem both_no2 {V W : Nat → Int} {k n : Nat} (h : k < n) (h2 : inB 1 (W k) 1000 = false) : (allB 0 1000000000 V n && allB 1 1000 W n) = false := by rw [← allB_end (V := W) h h2, Bool.and_false]
theorem tab_len (n m : Nat) (V W : Nat → Int) (h : lenE n m ≠ 0) : tabE n m V W = lenE n m := by unfold tabE; rw [if_neg h]
theorem rtable_any (x0 a b n : Int) (p : Option Addr) (lv c : Nat) (q : Option Addr) (lw f : Nat) (V W : Nat → Int) (w : World) (hV : Row w p lv V) (hW : Row w q lw W) :
    Calls Tryd.prog 66 #[.agg #[.int .i64 x0, .int .i64 a, .int .i64 b, .int .i64 n, .slice p lv c, .slice q lw f]] w (Gives (.int .i64 (tabE lv lw V W)) w) := by
  by_cases h : lv = lw
  · subst h
    by_cases h0 : lv = 0
    · subst h0
      go_enter Tryd.func66, Tryd.ntmps66
      go_wp2_with fail
      go_ret
      exact ⟨rfl, by (repeat (first | (with_reducible exact Below.refl _ _) | (with_reducible assumption) | (with_reducible apply bl_alloc) | (with_reducible apply bl_drewN) | (with_reducible apply bl_drew) | (with_reducible refine bl_set ?_ (by first | (simp; done) | (simp; omega)) _) | (with_reducible refine bl_call ?_ (by assumption))))⟩
    · have h1 : ((lv : Int) == 0) = false := by rw [beq_eq_false_iff_ne]; omega
      by_cases h2 : 20 < lv
      · have hr : tabE lv lv V W = 6 := by unfold tabE lenE; rw [if_pos rfl, if_neg h0, if_pos h2]; rfl
        rw [hr]
        have h3 : (20 : Int) < (lv : Int) := by omega
        clear h0 hr
        go_enter Tryd.func66, Tryd.ntmps66
        go_wp2_with fail
        go_ret
        exact ⟨rfl, by (repeat (first | (with_reducible exact Below.refl _ _) | (with_reducible assumption) | (with_reducible apply bl_alloc) | (with_reducible apply bl_drewN) | (with_reducible apply bl_drew) | (with_reducible refine bl_set ?_ (by first | (simp; done) | (simp; omega)) _) | (with_reducible refine bl_call ?_ (by assumption))))⟩
      · have hr : tabE lv lv V W = bE (allB 0 1000000000 V lv && allB 1 1000 W lv) := by unfold tabE lenE; rw [if_pos rfl, if_neg h0, if_neg h2]; rfl
        rw [hr]
        have h3 : decide ((20 : Int) < (lv : Int)) = false := decide_eq_false (by omega)
        obtain ⟨hl, hv | ⟨b1, o1, rfl, hb1, hc1⟩⟩ := hV
        · exact absurd hv h0
        obtain ⟨-, hw | ⟨b2, o2, rfl, hb2, hc2⟩⟩ := hW
        · exact absurd hw h0
        clear h0 hr h2
        go_enter Tryd.func66, Tryd.ntmps66
        go_wp2_with fail
        go_loop [3] (fun i => ∃ k : Nat, k ≤ lv ∧ i = .int .i64 k ∧ Hid (allB 0 1000000000 V k = true) ∧ Hid (allB 1 1000 W k = true)) (fun i => lv - (intOf i).toNat)
        case atStart => exact ⟨0, Nat.zero_le _, rfl, Lib.hid rfl, Lib.hid rfl⟩
        case round =>
          obtain ⟨k, hk, rfl, HA, HB⟩ := hrel
          rcases Nat.lt_or_ge k lv with h | h
          · have e1 := (keep_alloc (x := .cells #[.int .i64 x0, .int .i64 a, .int .i64 b, .int .i64 n, .slice (some ⟨b1, o1, none⟩) lv c, .slice (some ⟨b2, o2, none⟩) lv f] 36) (hc1.out k h) hb1)
            have e2 := (keep_alloc (x := .cells #[.int .i64 x0, .int .i64 a, .int .i64 b, .int .i64 n, .slice (some ⟨b1, o1, none⟩) lv c, .slice (some ⟨b2, o2, none⟩) lv f] 36) (hc2.out k h) hb2)
            have c1 : (0 : Int) ≤ (k : Int) := by omega
            have c2 : (k : Int) < (lv : Int) := by omega
            cases hi' : inB 0 (V k) 1000000000
            · have H := Lib.hid hi'
              have hz := Lib.hid (both_no1 (W := W) h hi')
              clear hi'
              go_wp2_with fail
              refine (rbtw_any _ _ _ _).mono ?_
              rintro e w1 ⟨rfl, rfl⟩
              rw [H.out]
              go_wp2_with fail
              go_ret
              exact ⟨by rw [hz.out]; rfl, by (repeat (first | (with_reducible exact Below.refl _ _) | (with_reducible assumption) | (with_reducible apply bl_alloc) | (with_reducible apply bl_drewN) | (with_reducible apply bl_drew) | (with_reducible refine bl_set ?_ (by first | (simp; done) | (simp; omega)) _) | (with_reducible refine bl_call ?_ (by assumption))))⟩
            · have H := Lib.hid hi'
              clear hi'
              cases hj' : inB 1 (W k) 1000
              · have J := Lib.hid hj'
                have hz := Lib.hid (both_no2 (V := V) h hj')
                clear hj'
                go_wp2_with fail
                refine (rbtw_any _ _ _ _).mono ?_
                rintro e w1 ⟨rfl, rfl⟩
                rw [H.out]
                go_wp2_with fail
                refine (rbtw_any _ _ _ _).mono ?_
                rintro e w1 ⟨rfl, rfl⟩
                rw [J.out]
                go_wp2_with fail
                go_ret
                exact ⟨by rw [hz.out]; rfl, by (repeat (first | (with_reducible exact Below.refl _ _) | (with_reducible assumption) | (with_reducible apply bl_alloc) | (with_reducible apply bl_drewN) | (with_reducible apply bl_drew) | (with_reducible refine bl_set ?_ (by first | (simp; done) | (simp; omega)) _) | (with_reducible refine bl_call ?_ (by assumption))))⟩
              · have J := Lib.hid hj'
                clear hj'
                go_wp2_with fail
                refine (rbtw_any _ _ _ _).mono ?_
                rintro e w1 ⟨rfl, rfl⟩
                rw [H.out]
                go_wp2_with fail
                refine (rbtw_any _ _ _ _).mono ?_
                rintro e w1 ⟨rfl, rfl⟩
                rw [J.out]
                go_wp2_with fail
                go_round
                case rel => exact ⟨k + 1, by omega, by go_num, Lib.hid (allB_next HA.out H.out), Lib.hid (allB_next HB.out J.out)⟩
                case measure => simp [intOf]; omega
          · obtain rfl : lv = k := by omega
            go_wp2_with fail
            go_ret
            exact ⟨by rw [HA.out, HB.out]; rfl, by (repeat (first | (with_reducible exact Below.refl _ _) | (with_reducible assumption) | (with_reducible apply bl_alloc) | (with_reducible apply bl_drewN) | (with_reducible apply bl_drew) | (with_reducible refine bl_set ?_ (by first | (simp; done) | (simp; omega)) _) | (with_reducible refine bl_call ?_ (by assumption))))⟩
  · have hr : tabE lv lw V W = 8 := by unfold tabE lenE; rw [if_neg h]; rfl
    rw [hr]
    have h1 : ((lv : Int) != (lw : Int)) = true := by rw [bne_iff_ne]; omega
    have h2 : (lv != lw) = true := by rw [bne_iff_ne]; exact h
    clear hr
    go_enter Tryd.func66, Tryd.ntmps66
    go_wp2_with fail
    go_ret
    exact ⟨rfl, by (repeat (first | (with_reducible exact Below.refl _ _) | (with_reducible assumption) | (with_reducible apply bl_alloc) | (with_reducible apply bl_drewN) | (with_reducible apply bl_drew) | (with_reducible refine bl_set ?_ (by first | (simp; done) | (simp; omega)) _) | (with_reducible refine bl_call ?_ (by assumption))))⟩
end Go.Proofs.YteapicfobammjaaDoor.Di
