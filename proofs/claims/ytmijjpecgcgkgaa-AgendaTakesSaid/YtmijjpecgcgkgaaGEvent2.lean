/-
  The contract of the reference's Event.
-/
import Derived.Test.YtmijjpecgcgkgaaGEvent
namespace Go.Proofs.Ytmijjpecgcgkgaa.Ag
open Go.RowKit
set_option maxHeartbeats 2000000
theorem revent_q (x : Ev) (q : Option Addr) (w : World) (hx : Row w q x.al x.V) : Calls Try.prog 15 #[.agg #[.int .i64 x.t, .int .i64 x.p, .int .i64 x.f, .int .i64 x.s, .int .i64 x.st, .int .i64 x.k, .int .i64 x.a, .int .i64 x.b, .slice q x.al x.ac]] w (Gives (.int .i64 (evE x)) w) := by
  have A0 : nineQ (w.alloc (.cells #[.int .i64 x.t, .int .i64 x.p, .int .i64 x.f, .int .i64 x.s, .int .i64 x.st, .int .i64 x.k, .int .i64 x.a, .int .i64 x.b, .slice q x.al x.ac] 25)) w.heap.size x q := nineQ.new
  have hX : Row (w.alloc (.cells #[.int .i64 x.t, .int .i64 x.p, .int .i64 x.f, .int .i64 x.s, .int .i64 x.st, .int .i64 x.k, .int .i64 x.a, .int .i64 x.b, .slice q x.al x.ac] 25)) q x.al x.V := hx.alloc
  clear hx
  cases h0 : upB x.t 1000000000
  · rw [evE_rng (by simp [rngB, *])]
    obtain ⟨a0, a1, a2, a3, a4, a5, a6, a7, a8, a9⟩ := A0
    have A0 : nineQ _ _ _ _ := ⟨a0, a1, a2, a3, a4, a5, a6, a7, a8, a9⟩
    go_enter Try.func15, Try.ntmps15
    go_wp2_with (go_at_call 33; refine (within_any _ _ _).mono ?_; rintro e w' ⟨rfl, rfl⟩)
    go_ret
    exact ⟨rfl, by (repeat (first | (with_reducible exact Below.refl _ _) | (with_reducible assumption) | (with_reducible apply bl_alloc) | (with_reducible apply bl_drewN) | (with_reducible apply bl_drew) | (with_reducible refine bl_set ?_ (by first | (simp; done) | (simp; omega)) _) | (with_reducible refine bl_call ?_ (by assumption))))⟩
  cases h1 : upB x.p 100
  · rw [evE_rng (by simp [rngB, *])]
    obtain ⟨a0, a1, a2, a3, a4, a5, a6, a7, a8, a9⟩ := A0
    have A0 : nineQ _ _ _ _ := ⟨a0, a1, a2, a3, a4, a5, a6, a7, a8, a9⟩
    go_enter Try.func15, Try.ntmps15
    go_wp2_with (go_at_call 33; refine (within_any _ _ _).mono ?_; rintro e w' ⟨rfl, rfl⟩)
    go_ret
    exact ⟨rfl, by (repeat (first | (with_reducible exact Below.refl _ _) | (with_reducible assumption) | (with_reducible apply bl_alloc) | (with_reducible apply bl_drewN) | (with_reducible apply bl_drew) | (with_reducible refine bl_set ?_ (by first | (simp; done) | (simp; omega)) _) | (with_reducible refine bl_call ?_ (by assumption))))⟩
  cases h2 : upB x.f 15
  · rw [evE_rng (by simp [rngB, *])]
    obtain ⟨a0, a1, a2, a3, a4, a5, a6, a7, a8, a9⟩ := A0
    have A0 : nineQ _ _ _ _ := ⟨a0, a1, a2, a3, a4, a5, a6, a7, a8, a9⟩
    go_enter Try.func15, Try.ntmps15
    go_wp2_with (go_at_call 33; refine (within_any _ _ _).mono ?_; rintro e w' ⟨rfl, rfl⟩)
    go_ret
    exact ⟨rfl, by (repeat (first | (with_reducible exact Below.refl _ _) | (with_reducible assumption) | (with_reducible apply bl_alloc) | (with_reducible apply bl_drewN) | (with_reducible apply bl_drew) | (with_reducible refine bl_set ?_ (by first | (simp; done) | (simp; omega)) _) | (with_reducible refine bl_call ?_ (by assumption))))⟩
  cases h3 : upB x.st 15
  · rw [evE_rng (by simp [rngB, *])]
    obtain ⟨a0, a1, a2, a3, a4, a5, a6, a7, a8, a9⟩ := A0
    have A0 : nineQ _ _ _ _ := ⟨a0, a1, a2, a3, a4, a5, a6, a7, a8, a9⟩
    go_enter Try.func15, Try.ntmps15
    go_wp2_with (go_at_call 33; refine (within_any _ _ _).mono ?_; rintro e w' ⟨rfl, rfl⟩)
    go_ret
    exact ⟨rfl, by (repeat (first | (with_reducible exact Below.refl _ _) | (with_reducible assumption) | (with_reducible apply bl_alloc) | (with_reducible apply bl_drewN) | (with_reducible apply bl_drew) | (with_reducible refine bl_set ?_ (by first | (simp; done) | (simp; omega)) _) | (with_reducible refine bl_call ?_ (by assumption))))⟩
  cases h4 : upB x.s 1000000000000
  · rw [evE_rng (by simp [rngB, *])]
    obtain ⟨a0, a1, a2, a3, a4, a5, a6, a7, a8, a9⟩ := A0
    have A0 : nineQ _ _ _ _ := ⟨a0, a1, a2, a3, a4, a5, a6, a7, a8, a9⟩
    go_enter Try.func15, Try.ntmps15
    go_wp2_with (go_at_call 33; refine (within_any _ _ _).mono ?_; rintro e w' ⟨rfl, rfl⟩)
    go_ret
    exact ⟨rfl, by (repeat (first | (with_reducible exact Below.refl _ _) | (with_reducible assumption) | (with_reducible apply bl_alloc) | (with_reducible apply bl_drewN) | (with_reducible apply bl_drew) | (with_reducible refine bl_set ?_ (by first | (simp; done) | (simp; omega)) _) | (with_reducible refine bl_call ?_ (by assumption))))⟩
  cases h5 : upB x.a 1000000000000
  · rw [evE_rng (by simp [rngB, *])]
    obtain ⟨a0, a1, a2, a3, a4, a5, a6, a7, a8, a9⟩ := A0
    have A0 : nineQ _ _ _ _ := ⟨a0, a1, a2, a3, a4, a5, a6, a7, a8, a9⟩
    go_enter Try.func15, Try.ntmps15
    go_wp2_with (go_at_call 33; refine (within_any _ _ _).mono ?_; rintro e w' ⟨rfl, rfl⟩)
    go_ret
    exact ⟨rfl, by (repeat (first | (with_reducible exact Below.refl _ _) | (with_reducible assumption) | (with_reducible apply bl_alloc) | (with_reducible apply bl_drewN) | (with_reducible apply bl_drew) | (with_reducible refine bl_set ?_ (by first | (simp; done) | (simp; omega)) _) | (with_reducible refine bl_call ?_ (by assumption))))⟩
  cases h6 : upB x.b 1000000000000
  · rw [evE_rng (by simp [rngB, *])]
    obtain ⟨a0, a1, a2, a3, a4, a5, a6, a7, a8, a9⟩ := A0
    have A0 : nineQ _ _ _ _ := ⟨a0, a1, a2, a3, a4, a5, a6, a7, a8, a9⟩
    go_enter Try.func15, Try.ntmps15
    go_wp2_with (go_at_call 33; refine (within_any _ _ _).mono ?_; rintro e w' ⟨rfl, rfl⟩)
    go_ret
    exact ⟨rfl, by (repeat (first | (with_reducible exact Below.refl _ _) | (with_reducible assumption) | (with_reducible apply bl_alloc) | (with_reducible apply bl_drewN) | (with_reducible apply bl_drew) | (with_reducible refine bl_set ?_ (by first | (simp; done) | (simp; omega)) _) | (with_reducible refine bl_call ?_ (by assumption))))⟩
  have hr : rngB x = true := by simp [rngB, *]
  have HR := Lib.hid hr
  clear hr
  by_cases k1 : x.k < 1
  · rw [evE_k1 HR.out k1]
    obtain ⟨a0, a1, a2, a3, a4, a5, a6, a7, a8, a9⟩ := A0
    have A0 : nineQ _ _ _ _ := ⟨a0, a1, a2, a3, a4, a5, a6, a7, a8, a9⟩
    go_enter Try.func15, Try.ntmps15
    go_wp2_with (go_at_call 33; refine (within_any _ _ _).mono ?_; rintro e w' ⟨rfl, rfl⟩)
    go_ret
    exact ⟨rfl, by (repeat (first | (with_reducible exact Below.refl _ _) | (with_reducible assumption) | (with_reducible apply bl_alloc) | (with_reducible apply bl_drewN) | (with_reducible apply bl_drew) | (with_reducible refine bl_set ?_ (by first | (simp; done) | (simp; omega)) _) | (with_reducible refine bl_call ?_ (by assumption))))⟩
  by_cases k2 : 5 < x.k
  · rw [evE_k2 HR.out k1 k2]
    obtain ⟨a0, a1, a2, a3, a4, a5, a6, a7, a8, a9⟩ := A0
    have A0 : nineQ _ _ _ _ := ⟨a0, a1, a2, a3, a4, a5, a6, a7, a8, a9⟩
    go_enter Try.func15, Try.ntmps15
    go_wp2_with (go_at_call 33; refine (within_any _ _ _).mono ?_; rintro e w' ⟨rfl, rfl⟩)
    go_ret
    exact ⟨rfl, by (repeat (first | (with_reducible exact Below.refl _ _) | (with_reducible assumption) | (with_reducible apply bl_alloc) | (with_reducible apply bl_drewN) | (with_reducible apply bl_drew) | (with_reducible refine bl_set ?_ (by first | (simp; done) | (simp; omega)) _) | (with_reducible refine bl_call ?_ (by assumption))))⟩
  by_cases hl : 6 < x.al
  · rw [evE_l HR.out k1 k2 hl]
    have hl2 : (6 : Int) < (x.al : Int) := by omega
    obtain ⟨a0, a1, a2, a3, a4, a5, a6, a7, a8, a9⟩ := A0
    have A0 : nineQ _ _ _ _ := ⟨a0, a1, a2, a3, a4, a5, a6, a7, a8, a9⟩
    go_enter Try.func15, Try.ntmps15
    go_wp2_with (go_at_call 33; refine (within_any _ _ _).mono ?_; rintro e w' ⟨rfl, rfl⟩)
    go_ret
    exact ⟨rfl, by (repeat (first | (with_reducible exact Below.refl _ _) | (with_reducible assumption) | (with_reducible apply bl_alloc) | (with_reducible apply bl_drewN) | (with_reducible apply bl_drew) | (with_reducible refine bl_set ?_ (by first | (simp; done) | (simp; omega)) _) | (with_reducible refine bl_call ?_ (by assumption))))⟩
  have hl2 : (x.al : Int) ≤ 6 := by omega
  have EA := fun h => Lib.hid (evE_a HR.out k1 k2 hl h)
  have EB := fun h => Lib.hid (evE_b HR.out k1 k2 hl h)
  have HE := Lib.hid (rfl : evE x = evE x)
  generalize evE x = E at EA EB ⊢
  have EA := Lib.hid EA
  have EB := Lib.hid EB
  obtain ⟨a0, a1, a2, a3, a4, a5, a6, a7, a8, a9⟩ := A0
  have A0 : nineQ _ _ _ _ := ⟨a0, a1, a2, a3, a4, a5, a6, a7, a8, a9⟩
  go_enter Try.func15, Try.ntmps15
  go_wp2_with (go_at_call 33; refine (within_any _ _ _).mono ?_; rintro e w' ⟨rfl, rfl⟩)
  obtain ⟨hln, h | ⟨b, o, rfl, hb, hc⟩⟩ := hX
  · go_loop [3] (fun i => i = .int .i64 0) (fun _ => 0)
    case atStart => rfl
    case round =>
      obtain rfl := hrel
      have hz : ((x.al : Nat) : Int) = 0 := by omega
      have hz2 : E = 0 := (EA.out (by rw [h]; rfl)).out
      subst hz2
      clear h hln
      go_wp2_with fail
      go_ret
      exact ⟨rfl, by (repeat (first | (with_reducible exact Below.refl _ _) | (with_reducible assumption) | (with_reducible apply bl_alloc) | (with_reducible apply bl_drewN) | (with_reducible apply bl_drew) | (with_reducible refine bl_set ?_ (by first | (simp; done) | (simp; omega)) _) | (with_reducible refine bl_call ?_ (by assumption))))⟩
  · go_loop [3] (fun i => ∃ k : Nat, k ≤ x.al ∧ i = .int .i64 k ∧ Hid (allI x.V k = true)) (fun i => x.al - (intOf i).toNat)
    case atStart => exact ⟨0, Nat.zero_le _, rfl, Lib.hid rfl⟩
    case round =>
      obtain ⟨k, hk, rfl, HA⟩ := hrel
      rcases Nat.lt_or_ge k x.al with h | h
      · have e1 := hc.out k h
        have c1 : (0 : Int) ≤ (k : Int) := by omega
        have c2 : (k : Int) < (x.al : Int) := by omega
        cases hi : inI (x.V k)
        · have H := Lib.hid hi
          have hz : E = 2 := (EB.out (allI_end h hi)).out
          subst hz
          clear hi
          go_wp2_with fail
          refine (rin_any _ _).mono ?_
          rintro e w1 ⟨rfl, rfl⟩
          rw [H.out]
          go_wp2_with fail
          go_ret
          exact ⟨rfl, by (repeat (first | (with_reducible exact Below.refl _ _) | (with_reducible assumption) | (with_reducible apply bl_alloc) | (with_reducible apply bl_drewN) | (with_reducible apply bl_drew) | (with_reducible refine bl_set ?_ (by first | (simp; done) | (simp; omega)) _) | (with_reducible refine bl_call ?_ (by assumption))))⟩
        · have H := Lib.hid hi
          clear hi
          go_wp2_with fail
          refine (rin_any _ _).mono ?_
          rintro e w1 ⟨rfl, rfl⟩
          rw [H.out]
          go_wp2_with fail
          go_round
          case rel => exact ⟨k + 1, by omega, by go_num, Lib.hid (allI_next HA.out H.out)⟩
          case measure => simp [intOf]; omega
      · have hz : E = 0 := (EA.out (by rw [show x.al = k by omega]; exact HA.out)).out
        subst hz
        have c2 : (x.al : Int) ≤ (k : Int) := by omega
        go_wp2_with fail
        go_ret
        exact ⟨rfl, by (repeat (first | (with_reducible exact Below.refl _ _) | (with_reducible assumption) | (with_reducible apply bl_alloc) | (with_reducible apply bl_drewN) | (with_reducible apply bl_drew) | (with_reducible refine bl_set ?_ (by first | (simp; done) | (simp; omega)) _) | (with_reducible refine bl_call ?_ (by assumption))))⟩
theorem revent_any (x : Ev) (w : World) (hx : Row w x.ap x.al x.V) : Calls Try.prog 15 #[.agg #[.int .i64 x.t, .int .i64 x.p, .int .i64 x.f, .int .i64 x.s, .int .i64 x.st, .int .i64 x.k, .int .i64 x.a, .int .i64 x.b, .slice x.ap x.al x.ac]] w (Gives (.int .i64 (evE x)) w) := revent_q x x.ap w hx
end Go.Proofs.Ytmijjpecgcgkgaa.Ag
