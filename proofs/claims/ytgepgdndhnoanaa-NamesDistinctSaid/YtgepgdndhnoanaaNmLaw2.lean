/-
  The law of different names, walked.
-/
import Derived.Test.YtgepgdndhnoanaaNmAwake
namespace Go.Proofs.Ytgepgdndhnoanaa.Na
open Go.RowKit
set_option maxHeartbeats 4000000
theorem rdist_at {p : Option Addr} {n c : Nat} {l : List ByteArray} {x : Int} {w : World} (h : dst l = x) (hb : Strs w p n l) (hz : Hid (∀ x ∈ l, x.size ≤ 9223372036854775807)) : Calls Try.prog 16 #[.slice p n c] w (Gives (.int .i64 x) w) := by rw [← h]; exact rdist_any p n c l w hb hz
theorem ok_both {l : List ByteArray} {k : Nat} (hk : k < l.length) (h : okB l k = true) : chk (bs l[k]) = 0 ∧ fst l l[k] = (k : Int) := by
  rw [okB_at hk, Bool.and_eq_true, decide_eq_true_eq] at h
  exact ⟨chk_yes h.1, h.2⟩
set_option maxRecDepth 100000 in
theorem namesDistinct_walk (p : Option Addr) (n c : Nat) (l : List ByteArray) (w : World) (_ : n ≤ c) (hb : Strs w p n l) (hz : ∀ x ∈ l, x.size ≤ 9223372036854775807) : Calls Try.prog 6 #[.slice p n c] w (Gives (.bool true) w) := by
  by_cases h6 : n ≤ 200
  · have t1 : decide ((200 : Int) < (n : Int)) = false := decide_eq_false (by omega)
    have h6' : (n : Int) ≤ 200 := by omega
    have HB := Lib.hid hb
    have HL := Lib.hid hb.1
    have HZ := Lib.hid hz
    obtain ⟨x, hx⟩ : ∃ x, dst l = x := ⟨_, rfl⟩
    by_cases h0 : x = 0
    · subst h0
      have HO := Lib.hid (dst_zero hx)
      clear hb hz
      go_enter Try.func6, Try.ntmps6
      go_wp2_with fail
      refine (dist_at hx HB.out HZ (by omega)).mono ?_
      rintro e w1 ⟨rfl, hb1⟩
      go_wp2_with fail
      refine (rdist_at hx (HB.out.on hb1) HZ).mono ?_
      rintro e w2 ⟨rfl, hb2⟩
      have HW2 : Hid (Below w.heap.size w w2) := Lib.hid (by (repeat (first | (with_reducible exact Below.refl _ _) | (with_reducible assumption) | (with_reducible apply bl_alloc) | (with_reducible apply bl_drewN) | (with_reducible apply bl_drew) | (with_reducible refine bl_set ?_ (by first | (simp; done) | (simp; omega)) _) | (with_reducible refine bl_call ?_ (by assumption)))))
      clear hb1 hb2
      go_wp2_with fail
      go_loopw [4] (fun i wr => ∃ k : Nat, k ≤ n ∧ i = .int .i64 (k : Nat) ∧ Hid (Below w.heap.size w wr)) (fun i _ => n - (intOf i).toNat)
      case atStart => exact ⟨0, Nat.zero_le _, rfl, HW2⟩
      case round =>
        obtain ⟨k, hk, rfl, HW⟩ := hrel
        have c1 : (0 : Int) ≤ (k : Int) := by omega
        rcases Nat.lt_or_ge k n with h | h
        · have hkl : k < l.length := by rw [HL.out]; exact h
          have HS := Lib.hid (HB.out.on HW.out)
          obtain ⟨-, -, h0 | ⟨b, o, rfl, hb, hcell⟩⟩ := HB.out.on HW.out
          · omega
          · have e1 := hcell.out k hkl
            have c2 : (k : Int) < (n : Int) := by omega
            have hx := HZ.out _ (List.getElem_mem hkl)
            obtain ⟨g1, g2⟩ := ok_both hkl (HO.out k hkl)
            obtain ⟨y, ey⟩ : ∃ y, l[k] = y := ⟨_, rfl⟩
            rw [ey] at e1 hx g1 g2
            clear hcell ey hkl
            go_wp2_with fail
            refine (check_at g1 hx wr).mono ?_
            rintro e w4 ⟨rfl, hb4⟩
            have HW4 : Hid (Below w.heap.size w w4) := Lib.hid (by have HBB := HW.out; (repeat (first | (with_reducible exact Below.refl _ _) | (with_reducible assumption) | (with_reducible apply bl_alloc) | (with_reducible apply bl_drewN) | (with_reducible apply bl_drew) | (with_reducible refine bl_set ?_ (by first | (simp; done) | (simp; omega)) _) | (with_reducible refine bl_call ?_ (by assumption)))))
            have e2 := (hb4.cell (p := ⟨b, o + k, none⟩) hb).trans e1
            have HS4 := Lib.hid (HS.out.on hb4)
            clear hb4
            go_wp2_with fail
            refine (find_at g2 HS4.out).mono ?_
            rintro e w5 ⟨rfl, rfl⟩
            go_wp2_with fail
            go_roundw
            case rel => exact ⟨k + 1, by omega, by go_num, HW4⟩
            case measure => simp [intOf]; omega
        · obtain rfl : n = k := by omega
          go_wp2_with fail
          refine (awake_any wr).mono ?_
          rintro e w4 ⟨rfl, hb4⟩
          go_wp2_with fail
          go_ret
          exact ⟨rfl, by have HBB := HW.out; (repeat (first | (with_reducible exact Below.refl _ _) | (with_reducible assumption) | (with_reducible apply bl_alloc) | (with_reducible apply bl_drewN) | (with_reducible apply bl_drew) | (with_reducible refine bl_set ?_ (by first | (simp; done) | (simp; omega)) _) | (with_reducible refine bl_call ?_ (by assumption))))⟩
    · have t2 : (x == x) = true := by simp
      have t2b : (x != x) = false := by simp
      have t3 : (x == 0) = false := beq_eq_false_iff_ne.2 h0
      clear hb hz
      go_enter Try.func6, Try.ntmps6
      go_wp2_with fail
      refine (dist_at hx HB.out HZ (by omega)).mono ?_
      rintro e w1 ⟨rfl, hb1⟩
      go_wp2_with fail
      refine (rdist_at hx (HB.out.on hb1) HZ).mono ?_
      rintro e w2 ⟨rfl, hb2⟩
      have HW2 : Hid (Below w.heap.size w w2) := Lib.hid (by (repeat (first | (with_reducible exact Below.refl _ _) | (with_reducible assumption) | (with_reducible apply bl_alloc) | (with_reducible apply bl_drewN) | (with_reducible apply bl_drew) | (with_reducible refine bl_set ?_ (by first | (simp; done) | (simp; omega)) _) | (with_reducible refine bl_call ?_ (by assumption)))))
      clear hb1 hb2
      go_wp2_with fail
      go_loopw [4] (fun i wr => i = .int .i64 0 ∧ Hid (Below w.heap.size w wr)) (fun i _ => 0)
      case atStart => exact ⟨rfl, HW2⟩
      case round =>
        obtain ⟨rfl, HW⟩ := hrel
        by_cases hn : 0 < n
        · have c2 : (0 : Int) < (n : Int) := by omega
          go_wp2_with fail
          refine (awake_any wr).mono ?_
          rintro e w4 ⟨rfl, hb4⟩
          go_wp2_with fail
          go_ret
          exact ⟨rfl, by have HBB := HW.out; (repeat (first | (with_reducible exact Below.refl _ _) | (with_reducible assumption) | (with_reducible apply bl_alloc) | (with_reducible apply bl_drewN) | (with_reducible apply bl_drew) | (with_reducible refine bl_set ?_ (by first | (simp; done) | (simp; omega)) _) | (with_reducible refine bl_call ?_ (by assumption))))⟩
        · obtain rfl : n = 0 := by omega
          go_wp2_with fail
          refine (awake_any wr).mono ?_
          rintro e w4 ⟨rfl, hb4⟩
          go_wp2_with fail
          go_ret
          exact ⟨rfl, by have HBB := HW.out; (repeat (first | (with_reducible exact Below.refl _ _) | (with_reducible assumption) | (with_reducible apply bl_alloc) | (with_reducible apply bl_drewN) | (with_reducible apply bl_drew) | (with_reducible refine bl_set ?_ (by first | (simp; done) | (simp; omega)) _) | (with_reducible refine bl_call ?_ (by assumption))))⟩
  · have t1 : decide ((200 : Int) < (n : Int)) = true := decide_eq_true (by omega)
    clear h6 hb
    go_enter Try.func6, Try.ntmps6
    go_wp2_with fail
    refine (awake_any _).mono ?_
    rintro e w1 ⟨rfl, hb1⟩
    go_wp2_with fail
    go_ret
    exact ⟨rfl, hb1⟩
end Go.Proofs.Ytgepgdndhnoanaa.Na
