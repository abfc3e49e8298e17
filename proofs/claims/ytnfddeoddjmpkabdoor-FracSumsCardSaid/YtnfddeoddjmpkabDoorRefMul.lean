/-
  The contracts of the reference's Scale and Times: the product, by the binary digits of the second factor.
-/
import Derived.Test.YtnfddeoddjmpkabDoorRefWide
namespace Go.Proofs.YtnfddeoddjmpkabDoor
open Go.RowKit
set_option maxHeartbeats 4000000
def ScaleAt (w : World) (ah al a b : Nat) (i : Value) (wr : World) : Prop :=
  ∃ k oh ol : Nat, k ≤ 64 ∧ i = .int .i64 ((k : Int) - 1) ∧ WV oh ol (a * (b / 2 ^ k)) ∧ two wr (w.heap.size + 1 + 1) (.int .u64 (oh : Nat)) (.int .u64 (ol : Nat)) ∧
    two wr w.heap.size (.int .u64 (ah : Nat)) (.int .u64 (al : Nat)) ∧ two wr (w.heap.size + 1) (.int .u64 0) (.int .u64 0) ∧ Below w.heap.size w wr
theorem scale_any {ah al a zh zl : Nat} (b : Nat) (ha : WV ah al a) (hb : b < 18446744073709551616) (hz : WV zh zl (a * b)) (hp : a * b < 340282366920938463463374607431768211456) (w : World) :
    Calls Tryd.prog 73 #[.agg #[.int .u64 (ah : Nat), .int .u64 (al : Nat)], .int .u64 (b : Nat)] w (Gives (.agg #[.int .u64 (zh : Nat), .int .u64 (zl : Nat)]) w) := by
  have HA := Lib.hid ha
  have HZ := Lib.hid hz
  have hle : ∀ k, a * (b / 2 ^ k) ≤ a * b := fun k => Nat.mul_le_mul_left _ (Nat.div_le_self _ _)
  have HLE := Lib.hid hle
  have HP := Lib.hid hp
  clear ha hz hle hp
  go_enter Tryd.func73, Tryd.ntmps73
  go_wp2_with fail
  go_loopw [6] (ScaleAt w ah al a b) (fun i _ => (intOf i + 1).toNat)
  case atStart =>
    refine ⟨64, 0, 0, by omega, rfl, ?_, ?_, ?_, ?_, by repeat (first | exact Below.refl _ _ | assumption | apply bl_alloc | apply bl_drewN | apply bl_drew | (refine bl_set ?_ (by first | (simp; done) | (simp; omega)) _) | (refine bl_call ?_ (by assumption)))⟩
    · rw [show b / 2 ^ 64 = 0 from Nat.div_eq_of_lt hb]; exact wv_zero
    · refine ⟨?_, ?_, ?_, ?_, ?_⟩ <;> first | (go_simp; done) | (simp; done) | (simp; omega)
    · refine ⟨?_, ?_, ?_, ?_, ?_⟩ <;> first | (go_simp; done) | (simp; done) | (simp; omega)
    · refine ⟨?_, ?_, ?_, ?_, ?_⟩ <;> first | (go_simp; done) | (simp; done) | (simp; omega)
  case round =>
    obtain ⟨k, oh, ol, hk, rfl, ho, G0, A0, C0, hB⟩ := hrel
    cases k with
    | zero =>
      rw [show ((0 : Nat) : Int) - 1 = -1 from rfl]
      have he : a * (b / 2 ^ 0) = a * b := by rw [Nat.pow_zero, Nat.div_one]
      rw [he] at ho
      obtain ⟨rfl, rfl⟩ := wv_eq ho HZ.out
      clear he ho hk
      obtain ⟨g0, g1, g2, g3, g4⟩ := G0
      have G0 : two _ _ _ _ := ⟨g0, g1, g2, g3, g4⟩
      obtain ⟨c0, c1, c2, c3, c4⟩ := C0
      have C0 : two _ _ _ _ := ⟨c0, c1, c2, c3, c4⟩
      go_wp2_with fail
      exact bodyPost_ret (v := .agg #[.int .u64 (oh : Nat), .int .u64 (ol : Nat)]) (by simp [results, Tryd.results73, go_sem, *]) rfl ⟨rfl, by repeat (first | exact Below.refl _ _ | assumption | apply bl_alloc | apply bl_drewN | apply bl_drew | (refine bl_set ?_ (by first | (simp; done) | (simp; omega)) _) | (refine bl_call ?_ (by assumption)))⟩
    | succ j =>
      rw [show ((j + 1 : Nat) : Int) - 1 = (j : Int) by omega]
      have hj : j < 64 := by omega
      obtain ⟨zh2, zl2, hz2⟩ := wv (a * (b / 2 ^ (j + 1)) + a * (b / 2 ^ (j + 1)))
      obtain ⟨c, ec⟩ : ∃ c, b / 2 ^ j % 2 = c := ⟨_, rfl⟩
      have hs : b / 2 ^ j = 2 * (b / 2 ^ (j + 1)) + c := by rw [← ec]; exact shift_bit b j
      have e2 : a * (b / 2 ^ j) = a * (b / 2 ^ (j + 1)) + a * (b / 2 ^ (j + 1)) + a * c := by rw [hs, Nat.mul_add, Nat.mul_left_comm]; omega
      have hj2 := HLE.out j
      have hp := HP.out
      have P1 := Lib.hid (rplus_any ho ho hz2 (by omega))
      have Bt := Lib.hid (bit_any (wv_low hb) j c (by omega) ec)
      have hc : c = 0 ∨ c = 1 := by omega
      rcases hc with rfl | rfl
      · have hz3 : WV zh2 zl2 (a * (b / 2 ^ j)) := by rw [e2, Nat.mul_zero, Nat.add_zero]; exact hz2
        have Z3 := Lib.hid hz3
        clear hz3 hz2 e2 hs ec ho hj2 hp hk
        obtain ⟨g0, g1, g2, g3, g4⟩ := G0
        have G0 : two _ _ _ _ := ⟨g0, g1, g2, g3, g4⟩
        go_wp2_with fail
        refine (P1.out _).mono ?_
        rintro e w1 ⟨rfl, hb1⟩
        have G1 := two.on hb1 G0
        have A1 := two.on hb1 A0
        have C1 := two.on hb1 C0
        clear g0 g1 g2 g3 g4
        obtain ⟨g0, g1, g2, g3, g4⟩ := G1
        have G1 : two _ _ _ _ := ⟨g0, g1, g2, g3, g4⟩
        go_wp2_with fail
        refine (Bt.out _).mono ?_
        rintro e w2 ⟨rfl, hb2⟩
        have G2 := two.on hb2 (two.set2 G1)
        have A2 := two.on hb2 (two.far A1 (by omega))
        have C2 := two.on hb2 (two.far C1 (by omega))
        clear g0 g1 g2 g3 g4
        go_wp2_with fail
        go_roundw
        case rel => exact ⟨j, zh2, zl2, by omega, rfl, Z3.out, G2, A2, C2, by repeat (first | exact Below.refl _ _ | assumption | apply bl_alloc | apply bl_drewN | apply bl_drew | (refine bl_set ?_ (by first | (simp; done) | (simp; omega)) _) | (refine bl_call ?_ (by assumption)))⟩
        case measure => simp [intOf]; try omega
      · obtain ⟨zh3, zl3, hz3⟩ := wv (a * (b / 2 ^ (j + 1)) + a * (b / 2 ^ (j + 1)) + a)
        have P2 := Lib.hid (rplus_any hz2 HA.out hz3 (by omega))
        have hz4 : WV zh3 zl3 (a * (b / 2 ^ j)) := by rw [e2, Nat.mul_one]; exact hz3
        have Z3 := Lib.hid hz4
        clear hz3 hz4 hz2 e2 hs ec ho hj2 hp hk
        obtain ⟨g0, g1, g2, g3, g4⟩ := G0
        have G0 : two _ _ _ _ := ⟨g0, g1, g2, g3, g4⟩
        go_wp2_with fail
        refine (P1.out _).mono ?_
        rintro e w1 ⟨rfl, hb1⟩
        have G1 := two.on hb1 G0
        have A1 := two.on hb1 A0
        have C1 := two.on hb1 C0
        clear g0 g1 g2 g3 g4
        obtain ⟨g0, g1, g2, g3, g4⟩ := G1
        have G1 : two _ _ _ _ := ⟨g0, g1, g2, g3, g4⟩
        go_wp2_with fail
        refine (Bt.out _).mono ?_
        rintro e w2 ⟨rfl, hb2⟩
        have G2 := two.on hb2 (two.set2 G1)
        have A2 := two.on hb2 (two.far A1 (by omega))
        have C2 := two.on hb2 (two.far C1 (by omega))
        clear g0 g1 g2 g3 g4
        obtain ⟨g0, g1, g2, g3, g4⟩ := G2
        have G2 : two _ _ _ _ := ⟨g0, g1, g2, g3, g4⟩
        obtain ⟨a0, a1, a2, a3, a4⟩ := A2
        have A2 : two _ _ _ _ := ⟨a0, a1, a2, a3, a4⟩
        go_wp2_with fail
        refine (P2.out _).mono ?_
        rintro e w3 ⟨rfl, hb3⟩
        have G3 := two.on hb3 G2
        have A3 := two.on hb3 A2
        have C3 := two.on hb3 C2
        clear g0 g1 g2 g3 g4 a0 a1 a2 a3 a4
        obtain ⟨g0, g1, g2, g3, g4⟩ := G3
        have G3 : two _ _ _ _ := ⟨g0, g1, g2, g3, g4⟩
        go_wp2_with fail
        go_roundw
        case rel => exact ⟨j, zh3, zl3, by omega, rfl, Z3.out, two.set2 G3, two.far A3 (by omega), two.far C3 (by omega), by repeat (first | exact Below.refl _ _ | assumption | apply bl_alloc | apply bl_drewN | apply bl_drew | (refine bl_set ?_ (by first | (simp; done) | (simp; omega)) _) | (refine bl_call ?_ (by assumption)))⟩
        case measure => simp [intOf]; try omega
theorem rtimes_any {zh zl : Nat} (a b : Nat) (ha : a < 18446744073709551616) (hb : b < 18446744073709551616) (hz : WV zh zl (a * b)) (w : World) :
    Calls Tryd.prog 48 #[.int .u64 (a : Nat), .int .u64 (b : Nat)] w (Gives (.agg #[.int .u64 (zh : Nat), .int .u64 (zl : Nat)]) w) := by
  have hp : a * b < 340282366920938463463374607431768211456 := Nat.mul_lt_mul'' ha hb
  have S := Lib.hid (scale_any b (wv_low ha) hb hz hp)
  clear hz hp
  go_enter Tryd.func48, Tryd.ntmps48
  go_wp2_with fail
  refine (S.out _).mono ?_
  rintro e w1 ⟨rfl, hb1⟩
  have C1 : two w1 (w.heap.size) (.int .u64 0) (.int .u64 0) := two.call (by refine ⟨?_, ?_, ?_, ?_, ?_⟩ <;> first | (go_simp; done) | (simp; done) | (simp; omega)) hb1
  obtain ⟨c0, c1, c2, c3, c4⟩ := C1
  have C1 : two _ _ _ _ := ⟨c0, c1, c2, c3, c4⟩
  go_wp2_with fail
  exact bodyPost_ret (v := .agg #[.int .u64 (zh : Nat), .int .u64 (zl : Nat)]) (by simp [results, Tryd.results48, go_sem, *]) rfl ⟨rfl, by repeat (first | exact Below.refl _ _ | assumption | apply bl_alloc | apply bl_drewN | apply bl_drew | (refine bl_set ?_ (by first | (simp; done) | (simp; omega)) _) | (refine bl_call ?_ (by assumption)))⟩
end Go.Proofs.YtnfddeoddjmpkabDoor
