/-
  The contract of tableValue.
-/
import Derived.Test.YtnfddeoddjmpkabDoorDOrd
namespace Go.Proofs.YtnfddeoddjmpkabDoor.Di
open Go.RowKit
set_option maxHeartbeats 2000000
theorem tval_walk (b o c b2 o2 f n u : Nat) (S K : Int) (V W : Nat → Int) (w : World) (Z : Array Value) (hb : b < w.heap.size) (hb2 : b2 < w.heap.size) (n1 : 1 ≤ n) (n20 : n ≤ 20) (k0 : 0 ≤ K) (k1 : K ≤ 20000)
    (hv : Hid (∀ i, i < n → w.cell? ⟨b, o + i, none⟩ = some (.int .i64 (V i)))) (hw : Hid (∀ i, i < n → w.cell? ⟨b2, o2 + i, none⟩ = some (.int .i64 (W i))))
    (hW : Hid (∀ i, i < n → 1 ≤ W i ∧ W i ≤ 1000)) (hK : Hid (K < sumT W n))
    (hmk : ∀ w : World, (Instr.makeSlice 31 (.int .i64 n) (.int .i64 n)).run Tryd.prog w = .ok (.slice (some ⟨w.heap.size, 0, none⟩) n n) (w.alloc (.cells Z 3)))
    (FS : Hid (Fill w n (.slice (some ⟨b, o, none⟩) n c) 0 ((w.alloc (.cells #[.slice (some ⟨b, o, none⟩) n c] 31)).alloc (.cells Z 3))))
    (SRT : Hid (∀ wr, Fill w n (.slice (some ⟨b, o, none⟩) n c) n wr → Calls Tryd.prog 76 #[.slice (some ⟨w.heap.size + 1, 0, none⟩) n n, .func (.func 77) #[] #[.pointer (some ⟨w.heap.size, 0, none⟩)]] wr fun e w' => e = .returned (.tuple #[]) ∧ ∃ D, Ord n V D ∧ Laid w n (.slice (some ⟨b, o, none⟩) n c) D w'))
    (SUM : Hid (∀ wr, Below w.heap.size w wr → Calls Tryd.prog 57 #[.slice (some ⟨b2, o2, none⟩) n f] wr fun e w' => e = .returned (.int .i64 S) ∧ wr = w'))
    (UPP : Hid (∀ wr, Calls Tryd.prog 63 #[.int .u64 u, .int .i64 S] wr fun e w' => e = .returned (.int .i64 K) ∧ wr = w')) :
    Calls Tryd.prog 61 #[.slice (some ⟨b, o, none⟩) n c, .slice (some ⟨b2, o2, none⟩) n f, .int .u64 u] w (Gives (.int .i64 (tabV V W n K)) w) := by
  go_enter Tryd.func61, Tryd.ntmps61
  go_wp2_with fail
  clear hmk
  go_loopw [16] (fun i wr => ∃ k : Nat, k ≤ n ∧ i = .int .i64 k ∧ Hid (Fill w n (.slice (some ⟨b, o, none⟩) n c) k wr)) (fun i _ => n - (intOf i).toNat)
  case atStart => exact ⟨0, Nat.zero_le _, rfl, FS⟩
  case round =>
    obtain ⟨k, hk, rfl, HF⟩ := hrel
    rcases Nat.lt_or_ge k n with h | h
    · obtain ⟨e1, e2⟩ := HF.out.1 k h
      have c1 : (0 : Int) ≤ (k : Int) := by omega
      have c2 : (k : Int) < (n : Int) := by omega
      obtain ⟨y, ey⟩ : ∃ y : Nat, (if k < k then k else 0) = y := ⟨_, rfl⟩
      rw [ey] at e1
      clear ey
      go_wp2_with fail
      go_roundw
      case rel => exact ⟨k + 1, by omega, by go_num, Lib.hid (fill_step HF.out h)⟩
      case measure => simp [intOf]; omega
    · obtain rfl : n = k := by omega
      go_wp2_with fail
      refine (SRT.out _ HF.out).mono ?_
      rintro e w1 ⟨rfl, D, hO, hL⟩
      have HO := Lib.hid hO
      have HL := Lib.hid hL
      have hB : Below w.heap.size w w1 := hL.2.2
      clear hO hL
      go_wp2_with fail
      refine (SUM.out _ hB).mono ?_
      rintro e w2 ⟨rfl, rfl⟩
      go_wp2_with fail
      refine (UPP.out _).mono ?_
      rintro e w2 ⟨rfl, rfl⟩
      go_wp2_with fail
      go_loop [9, 10] (fun x y => ∃ (j : Nat) (r : Int), j < n ∧ x = .int .i64 r ∧ y = .int .i64 j ∧ 0 ≤ r ∧ r ≤ 20000 ∧ Hid (r = K - cum D W n j)) (fun _ y => n - (intOf y).toNat)
      case atStart => exact ⟨0, K, by omega, rfl, rfl, k0, k1, Lib.hid (by have := sumIf_none (U := usedBy D 0) (W := W) (n := n) (fun _ _ => rfl); unfold cum; rw [this]; omega)⟩
      case round =>
        obtain ⟨j, r, hj, rfl, rfl, r0, r1, HR⟩ := hrel
        have e1 := HL.out.1 j hj
        have hx := HO.out.lt j hj
        have hn := HO.out.next W hj
        have hval := fun h1 h2 => HO.out.value (W := W) (fun i hi => by have := hW.out i hi; omega) hj (K := K) h1 h2
        have hend := HO.out.whole W
        have e2 := (hB.cell (p := ⟨b2, o2 + D j, none⟩) hb2).trans (hw.out _ hx)
        have e3 := (hB.cell (p := ⟨b, o + D j, none⟩) hb).trans (hv.out _ hx)
        have e4 := HL.out.2.1
        obtain ⟨g0, g1⟩ := hW.out _ hx
        have hr := HR.out
        have hk := hK.out
        obtain ⟨x, ex⟩ : ∃ x, D j = x := ⟨_, rfl⟩
        rw [ex] at e1 hx hn hval e2 e3 g0 g1
        obtain ⟨z, ez⟩ : ∃ z, W x = z := ⟨_, rfl⟩
        rw [ez] at hn hval e2 g0 g1
        have c1 : (0 : Int) ≤ (j : Int) := by omega
        have c2 : (j : Int) < (n : Int) := by omega
        have c3 : (0 : Int) ≤ (x : Int) := by omega
        have c4 : (x : Int) < (n : Int) := by omega
        rcases Int.lt_or_le r z with hlt | hle
        · have HV : Hid (tabV V W n K = V x) := Lib.hid (hval (by omega) (by omega))
          clear hn hval hend hr hk ex ez
          have d1 : decide (z ≤ r) = false := decide_eq_false (by omega)
          go_wp2_with fail
          go_quiet (fail)
          go_wp2_with fail
          go_ret
          exact ⟨ret_int HV.out.symm, by (repeat (first | (with_reducible exact Below.refl _ _) | (with_reducible assumption) | (with_reducible apply bl_alloc) | (with_reducible apply bl_drewN) | (with_reducible apply bl_drew) | (with_reducible refine bl_set ?_ (by first | (simp; done) | (simp; omega)) _) | (with_reducible refine bl_call ?_ (by assumption))))⟩
        · have hj1 : j + 1 < n := by
            rcases Nat.lt_or_ge (j + 1) n with g | g
            · exact g
            · have : j + 1 = n := by omega
              rw [this, hend] at hn; omega
          have HR2 : Hid (r - z = K - cum D W n (j + 1)) := Lib.hid (by rw [hn]; omega)
          clear hn hval hend hr hk ex ez
          have d1 : decide (z ≤ r) = true := decide_eq_true hle
          go_wp2_with fail
          go_round
          case rel => exact ⟨j + 1, r - z, hj1, rfl, by go_num, by omega, by omega, HR2⟩
          case measure => simp [intOf]; omega
end Go.Proofs.YtnfddeoddjmpkabDoor.Di
