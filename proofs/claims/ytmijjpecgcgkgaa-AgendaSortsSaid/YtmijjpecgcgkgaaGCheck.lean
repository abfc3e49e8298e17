/-
  The contract of Check.
-/
import Derived.Test.YtmijjpecgcgkgaaGList
namespace Go.Proofs.Ytmijjpecgcgkgaa.Ag
open Go.RowKit
set_option maxHeartbeats 4000000
theorem check_any (p : Option Addr) (n c : Nat) (E : Nat → Ev) (w : World) (hE : Evs w p n E) : Calls Try.prog 16 #[.slice p n c] w (Gives (.int .i64 (chkE E n)) w) := by
  by_cases hn : 5000 < n
  · rw [chkE_long hn]
    have hn2 : (5000 : Int) < (n : Int) := by omega
    clear hE
    go_enter Try.func16, Try.ntmps16
    go_wp2_with fail
    go_ret
    exact ⟨rfl, by (repeat (first | (with_reducible exact Below.refl _ _) | (with_reducible assumption) | (with_reducible apply bl_alloc) | (with_reducible apply bl_drewN) | (with_reducible apply bl_drew) | (with_reducible refine bl_set ?_ (by first | (simp; done) | (simp; omega)) _) | (with_reducible refine bl_call ?_ (by assumption))))⟩
  have hn2 : (n : Int) ≤ 5000 := by omega
  have HN := Lib.hid hn
  obtain ⟨hl, h | ⟨b, o, rfl, hb, hc⟩⟩ := hE
  · subst h
    rw [← chkE_end HN.out rfl]
    clear hn hl
    go_enter Try.func16, Try.ntmps16
    go_wp2_with fail
    go_loop [11] (fun i => i = .int .i64 0) (fun _ => 0)
    case atStart => rfl
    case round =>
      obtain rfl := hrel
      go_wp2_with fail
      go_ret
      exact ⟨rfl, by (repeat (first | (with_reducible exact Below.refl _ _) | (with_reducible assumption) | (with_reducible apply bl_alloc) | (with_reducible apply bl_drewN) | (with_reducible apply bl_drew) | (with_reducible refine bl_set ?_ (by first | (simp; done) | (simp; omega)) _) | (with_reducible refine bl_call ?_ (by assumption))))⟩
  · clear hn hl
    have HR := Lib.hid (rfl : chkE E n = chkE E n)
    have HH := Lib.hid fun (k : Nat) (z : Int) (h0 : orF (stepE E) k = 0) (h1 : stepE E k = z) (hz : z ≠ 0) (hk : k < n) => chkE_hit HN.out h0 h1 hz hk
    have HD := Lib.hid fun (h0 : orF (stepE E) n = 0) => chkE_end HN.out h0
    generalize chkE E n = Z at HR HH HD ⊢
    clear HR
    go_enter Try.func16, Try.ntmps16
    go_wp2_with fail
    go_loopw [11] (fun i wr => ∃ k : Nat, k ≤ n ∧ i = .int .i64 k ∧ Below w.heap.size w wr ∧ Hid (orF (stepE E) k = 0)) (fun i _ => n - (intOf i).toNat)
    case atStart => exact ⟨0, Nat.zero_le _, rfl, Below.refl _ _, Lib.hid rfl⟩
    case round =>
      obtain ⟨k, hk, rfl, hb0, HA⟩ := hrel
      have c1 : (0 : Int) ≤ (k : Int) := by omega
      have wk : IntKind.i64.wrap ((k : Int) + 1) = ((k + 1 : Nat) : Int) := by rw [IntKind.wrap_i64]; omega
      rcases Nat.lt_or_ge k n with h | h
      · have c2 : (k : Int) < (n : Int) := by omega
        have hbr : b < wr.heap.size := Nat.lt_of_lt_of_le hb hb0.size
        have CK := cell9.on hb0 hb (hc.out k h).1
        have RK : ok wr (E k) := Row.on hb0 (hc.out k h).2
        obtain ⟨e0, e1, e2, e3, e4, e5, e6, e7, e8⟩ := CK
        go_wp2_with fail
        refine (event_any (E k) _ RK.alloc).mono ?_
        rintro e w1 ⟨rfl, hb1⟩
        have A1 : nine w1 wr.heap.size (E k) := nine.on hb1 nine.new
        have BB : Below w.heap.size w w1 := by (repeat (first | (with_reducible exact Below.refl _ _) | (with_reducible assumption) | (with_reducible apply bl_alloc) | (with_reducible apply bl_drewN) | (with_reducible apply bl_drew) | (with_reducible refine bl_set ?_ (by first | (simp; done) | (simp; omega)) _) | (with_reducible refine bl_call ?_ (by assumption))))
        by_cases hz : evE (E k) = 0
        · have HZ := Lib.hid hz
          rw [hz]
          clear hz e0 e1 e2 e3 e4 e5 e6 e7 e8 RK
          rcases Nat.eq_zero_or_pos k with hk0 | hk0
          · have HK := Lib.hid hk0
            have hd : decide (0 < k) = false := by simp; omega
            clear hk0
            go_wp2_with fail
            go_quiet (fail)
            go_wp2_with fail
            go_roundw
            case rel => exact ⟨k + 1, by omega, rfl, by (repeat (first | (with_reducible exact Below.refl _ _) | (with_reducible assumption) | (with_reducible apply bl_alloc) | (with_reducible apply bl_drewN) | (with_reducible apply bl_drew) | (with_reducible refine bl_set ?_ (by first | (simp; done) | (simp; omega)) _) | (with_reducible refine bl_call ?_ (by assumption)))), Lib.hid (or_next HA.out (by have := HK.out; subst this; exact step_first HZ.out))⟩
            case measure => simp [intOf]; omega
          · obtain ⟨j, HJ⟩ : ∃ j, Hid (k = j + 1) := ⟨k - 1, Lib.hid (by omega)⟩
            have hd : decide (0 < k) = true := by simp; omega
            have wj : IntKind.i64.wrap ((k : Int) - 1) = (j : Int) := by have := HJ.out; rw [IntKind.wrap_i64]; omega
            have j1 : (0 : Int) ≤ (j : Int) := by omega
            have j2 : (j : Int) < (n : Int) := by have := HJ.out; omega
            have CJ := cell9.on BB hb (hc.out j (by have := HJ.out; omega)).1
            obtain ⟨f0, f1, f2, f3, f4, f5, f6, f7, f8⟩ := CJ
            obtain ⟨a0, a1, a2, a3, a4, a5, a6, a7, a8, a9⟩ := A1
            have A1 : nine _ _ _ := ⟨a0, a1, a2, a3, a4, a5, a6, a7, a8, a9⟩
            go_wp2_with fail
            refine region_still_tail 9 (by kernel_rfl) (by kernel_rfl) ?_
            simp only [List.take_succ_cons, List.take_zero, List.drop_succ_cons, List.drop_zero]
            iterate 9 still_step
            refine wpStill_nil ?_
            go_wp2_with fail
            refine (less_any (E j) (E k) _).mono ?_
            rintro e w2 ⟨rfl, hb2⟩
            cases hl : ltB (E j) (E k)
            · have H := Lib.hid (HH.out k 12 HA.out (by have e0 := HJ.out; subst e0; exact step_ge HZ.out hl) (by decide) h)
              clear hl
              go_wp2_with fail
              go_ret
              exact ⟨ret_int H.out, by (repeat (first | (with_reducible exact Below.refl _ _) | (with_reducible assumption) | (with_reducible apply bl_alloc) | (with_reducible apply bl_drewN) | (with_reducible apply bl_drew) | (with_reducible refine bl_set ?_ (by first | (simp; done) | (simp; omega)) _) | (with_reducible refine bl_call ?_ (by assumption))))⟩
            · have HL := Lib.hid hl
              clear hl
              go_wp2_with fail
              go_roundw
              case rel => exact ⟨k + 1, by omega, rfl, by (repeat (first | (with_reducible exact Below.refl _ _) | (with_reducible assumption) | (with_reducible apply bl_alloc) | (with_reducible apply bl_drewN) | (with_reducible apply bl_drew) | (with_reducible refine bl_set ?_ (by first | (simp; done) | (simp; omega)) _) | (with_reducible refine bl_call ?_ (by assumption)))), Lib.hid (or_next HA.out (by have e0 := HJ.out; subst e0; exact step_lt HZ.out HL.out))⟩
              case measure => simp [intOf]; omega
        · have hz2 : (evE (E k) != 0) = true := by rw [bne_iff_ne]; exact hz
          have H := Lib.hid (HH.out k _ HA.out (step_ev hz) hz h)
          clear hz e0 e1 e2 e3 e4 e5 e6 e7 e8
          go_wp2_with fail
          go_ret
          exact ⟨ret_int H.out, by (repeat (first | (with_reducible exact Below.refl _ _) | (with_reducible assumption) | (with_reducible apply bl_alloc) | (with_reducible apply bl_drewN) | (with_reducible apply bl_drew) | (with_reducible refine bl_set ?_ (by first | (simp; done) | (simp; omega)) _) | (with_reducible refine bl_call ?_ (by assumption))))⟩
      · obtain rfl : n = k := by omega
        have H := Lib.hid (HD.out HA.out)
        go_wp2_with fail
        go_ret
        exact ⟨ret_int H.out, by (repeat (first | (with_reducible exact Below.refl _ _) | (with_reducible assumption) | (with_reducible apply bl_alloc) | (with_reducible apply bl_drewN) | (with_reducible apply bl_drew) | (with_reducible refine bl_set ?_ (by first | (simp; done) | (simp; omega)) _) | (with_reducible refine bl_call ?_ (by assumption))))⟩
end Go.Proofs.Ytmijjpecgcgkgaa.Ag
