/-
  The contract of the reference's Mean at tables, and at all.
-/
import Derived.Test.YteapicfobammjaaDoorDRefMean
namespace Go.Proofs.YteapicfobammjaaDoor.Di
open Go.RowKit
set_option maxHeartbeats 4000000
theorem rmean3 (a b n : Int) (b1 o1 c b2 o2 f m : Nat) (x y S t : Int) (z : Bool) (V W : Nat → Int) (w : World) (hn : m ≤ 20) (h1 : b1 < w.heap.size) (h2 : b2 < w.heap.size) (hv : Hid (∀ i, i < m → w.cell? ⟨b1, o1 + i, none⟩ = some (.int .i64 (V i)))) (hw : Hid (∀ i, i < m → w.cell? ⟨b2, o2 + i, none⟩ = some (.int .i64 (W i))))
    (hB : Hid (∀ i, i < m → 0 ≤ V i * W i ∧ V i * W i ≤ 1000000000000)) (hS : Hid (sumP V W m = S))
    (CH : Hid (∀ w2, Below w.heap.size w w2 → Calls Tryd.prog 25 #[.agg #[.int .i64 3, .int .i64 a, .int .i64 b, .int .i64 n, .slice (some ⟨b1, o1, none⟩) m c, .slice (some ⟨b2, o2, none⟩) m f]] w2 (Gives (.int .i64 0) w2)))
    (SM : Hid (∀ w2, Below w.heap.size w w2 → Calls Tryd.prog 60 #[.slice (some ⟨b2, o2, none⟩) m f] w2 fun e w' => e = .returned (.int .i64 t) ∧ w2 = w'))
    (O : Hid (∀ w2, Calls Tryd.prog 59 #[.int .i64 S, .int .i64 t] w2 (Gives (.tuple #[.agg #[.int .i64 x, .int .i64 y], .bool z]) w2))) :
    Calls Tryd.prog 23 #[.agg #[.int .i64 3, .int .i64 a, .int .i64 b, .int .i64 n, .slice (some ⟨b1, o1, none⟩) m c, .slice (some ⟨b2, o2, none⟩) m f]] w (Gives (.tuple #[.agg #[.int .i64 x, .int .i64 y], .bool z]) w) := by
  go_enter Tryd.func23, Tryd.ntmps23
  go_wp2_with fail
  refine (CH.out _ (by (repeat (first | (with_reducible exact Below.refl _ _) | (with_reducible assumption) | (with_reducible apply bl_alloc) | (with_reducible apply bl_drewN) | (with_reducible apply bl_drew) | (with_reducible refine bl_set ?_ (by first | (simp; done) | (simp; omega)) _) | (with_reducible refine bl_call ?_ (by assumption)))))).mono ?_
  rintro e w1 ⟨rfl, hb1⟩
  have D1 := six.on hb1 (six.alloc (o := .cells #[.int .i64 0, .int .i64 0] 23) (six.new (w := w) (t := 36)))
  have T1 : two w1 (w.heap.size + 1) (.int .i64 0) (.int .i64 0) := two.call (by refine ⟨?_, ?_, ?_, ?_, ?_⟩ <;> first | (go_simp; done) | (simp; done) | (simp; omega)) hb1
  obtain ⟨t0, t1, t2, t3, t4⟩ := T1
  have T1 : two _ _ _ _ := ⟨t0, t1, t2, t3, t4⟩
  obtain ⟨d0, d1, d2, d3, d4, d5, d6⟩ := D1
  have D1 : six _ _ _ _ _ _ _ _ := ⟨d0, d1, d2, d3, d4, d5, d6⟩
  go_wp2_with fail
  have Bw : Below w.heap.size w w1 := by (repeat (first | (with_reducible exact Below.refl _ _) | (with_reducible assumption) | (with_reducible apply bl_alloc) | (with_reducible apply bl_drewN) | (with_reducible apply bl_drew) | (with_reducible refine bl_set ?_ (by first | (simp; done) | (simp; omega)) _) | (with_reducible refine bl_call ?_ (by assumption))))
  clear t0 t1 t2 t3 t4 d0 d1 d2 d3 d4 d5 d6 hb1 CH
  go_loopw [4, 5] (fun x y wr => ∃ (k : Nat) (s : Int), k ≤ m ∧ y = .int .i64 k ∧ x = .int .i64 s ∧ 0 ≤ s ∧ s ≤ 1000000000000 * (k : Int) ∧ Hid (sumP V W k = s) ∧ Below w1.heap.size w1 wr) (fun _ y _ => m - (intOf y).toNat)
  case atStart => exact ⟨0, 0, Nat.zero_le _, rfl, rfl, by omega, by omega, Lib.hid rfl, Below.refl _ _⟩
  case round =>
    obtain ⟨k, s, hk, rfl, rfl, s0, s1, HS, B⟩ := hrel
    have B0 := bl_call Bw B
    have D2 := six.on B D1
    have T2 := two.on B T1
    obtain ⟨d0, d1, d2, d3, d4, d5, d6⟩ := D2
    rcases Nat.lt_or_ge k m with h | h
    · have e1 := (B0.cell (p := ⟨b1, o1 + k, none⟩) h1).trans (hv.out k h)
      have e2 := (B0.cell (p := ⟨b2, o2 + k, none⟩) h2).trans (hw.out k h)
      obtain ⟨g0, g1⟩ := hB.out k h
      have c1 : (0 : Int) ≤ (k : Int) := by omega
      have c2 : (k : Int) < (m : Int) := by omega
      have c3 : (m : Int) ≤ 20 := by omega
      go_wp2_with fail
      go_quiet (fail)
      go_wp2_with fail
      go_roundw
      case rel => exact ⟨k + 1, s + V k * W k, by omega, by go_num, rfl, by omega, by omega, Lib.hid (sumP_step HS.out), by (repeat (first | (with_reducible exact Below.refl _ _) | (with_reducible assumption) | (with_reducible apply bl_alloc) | (with_reducible apply bl_drewN) | (with_reducible apply bl_drew) | (with_reducible refine bl_set ?_ (by first | (simp; done) | (simp; omega)) _) | (with_reducible refine bl_call ?_ (by assumption))))⟩
      case measure => simp [intOf]; omega
    · obtain rfl : m = k := by omega
      obtain rfl : s = S := HS.out.symm.trans hS.out
      obtain ⟨t0, t1, t2, t3, t4⟩ := T2
      have T2 : two _ _ _ _ := ⟨t0, t1, t2, t3, t4⟩
      go_wp2_with fail
      refine (SM.out _ (by (repeat (first | (with_reducible exact Below.refl _ _) | (with_reducible assumption) | (with_reducible apply bl_alloc) | (with_reducible apply bl_drewN) | (with_reducible apply bl_drew) | (with_reducible refine bl_set ?_ (by first | (simp; done) | (simp; omega)) _) | (with_reducible refine bl_call ?_ (by assumption)))))).mono ?_
      rintro e wb ⟨rfl, rfl⟩
      go_wp2_with fail
      refine (O.out _).mono ?_
      rintro e w2 ⟨rfl, hb2⟩
      have T3 := two.on hb2 T2
      clear t0 t1 t2 t3 t4
      obtain ⟨t0, t1, t2, t3, t4⟩ := T3
      go_wp2_with fail
      exact bodyPost_ret (v := .tuple #[.agg #[.int .i64 x, .int .i64 y], .bool z]) (by simp [results, Tryd.results23, go_sem, *]) rfl ⟨rfl, by (repeat (first | (with_reducible exact Below.refl _ _) | (with_reducible assumption) | (with_reducible apply bl_alloc) | (with_reducible apply bl_drewN) | (with_reducible apply bl_drew) | (with_reducible refine bl_set ?_ (by first | (simp; done) | (simp; omega)) _) | (with_reducible refine bl_call ?_ (by assumption))))⟩
theorem rmean_any (op a b n : Int) (p : Option Addr) (lv c : Nat) (q : Option Addr) (lw f : Nat) (V W : Nat → Int) (w : World) (hV : Row w p lv V) (hW : Row w q lw W) : Calls Tryd.prog 23 #[.agg #[.int .i64 op, .int .i64 a, .int .i64 b, .int .i64 n, .slice p lv c, .slice q lw f]] w (Gives (.tuple #[.agg #[.int .i64 (oN (meanO (errD op a b n lv lw V W) op a b n lv V W)), .int .i64 (oD (meanO (errD op a b n lv lw V W) op a b n lv V W))], .bool (oB (meanO (errD op a b n lv lw V W) op a b n lv V W))]) w) := by
  have CH := Lib.hid fun (w2 : World) (hb : Below w.heap.size w w2) => rcheck_any op a b n p lv c q lw f V W w2 (hV.on hb) (hW.on hb)
  unfold meanO
  by_cases h0 : errD op a b n lv lw V W = 0
  · rw [if_pos h0]
    have hA := acc_of h0
    rw [h0] at CH
    rcases hA with ⟨rfl, h⟩ | ⟨rfl, h⟩ | ⟨rfl, rfl, h2, h3, h4, h5⟩ | ⟨rfl, g1, g2, g3, g4, g5⟩ | ⟨rfl, h⟩
    · rw [if_pos rfl]; exact rmean1 a b n p lv c q lw f _ _ _ w CH (Lib.hid (rof_any a 1 (by omega) (by omega) (by omega) (by omega)))
    · rw [if_neg (by decide), if_pos rfl]; exact rmean2 a b n p lv c q lw f _ _ _ _ (by rw [IntKind.wrap_i64]; omega) w CH (Lib.hid (rof_any (a + b) 2 (by omega) (by omega) (by omega) (by omega)))
    · rw [if_neg (by decide), if_neg (by decide), if_pos rfl]
      have hp := sumP_bd (prod_bd h4 h5)
      have ht := sumT_bd h5
      have SM := Lib.hid fun (w2 : World) (hb : Below w.heap.size w w2) => rsum_any q _ f W w2 (hW.on hb) h3 (Lib.hid fun i hi => by have := h5 i hi; omega)
      obtain ⟨-, e | ⟨b1, o1, rfl, hb1, hc1⟩⟩ := hV
      · omega
      obtain ⟨-, e | ⟨b2, o2, rfl, hb2, hc2⟩⟩ := hW
      · omega
      exact rmean3 a b n b1 o1 c b2 o2 f _ _ _ _ _ _ V W w h3 hb1 hb2 hc1 hc2 (Lib.hid (prod_bd h4 h5)) (Lib.hid rfl) CH SM (Lib.hid (rof_any _ _ (by omega) (by omega) (by omega) (by omega)))
    · rw [if_neg (by decide), if_neg (by decide), if_neg (by decide), if_pos rfl]
      have hn := nab_bd g1 g2 (a := a) (b := b) (by omega) (by omega)
      exact rmean4 a b n p lv c q lw f _ _ (a + b) (n * (a + b)) _ (by rw [IntKind.wrap_i64]; omega) (by rw [IntKind.wrap_i64]; omega) w CH (Lib.hid (rof_any _ 2 (by omega) (by omega) (by omega) (by omega)))
    · rw [if_neg (by decide), if_neg (by decide), if_neg (by decide), if_neg (by decide)]
      by_cases ha : a = 1
      · rw [if_pos (.inl ha)]; exact rmean5y a b n p lv c q lw f _ _ _ (.inl (by rw [beq_iff_eq]; exact ha)) w CH (Lib.hid (rof_any 1 1 (by omega) (by omega) (by omega) (by omega)))
      · have ha' : (a == 1) = false := by rw [beq_eq_false_iff_ne]; exact ha
        by_cases hb : b = 1
        · rw [if_pos (.inr hb)]; exact rmean5y a b n p lv c q lw f _ _ _ (.inr ⟨ha', by rw [beq_iff_eq]; exact hb⟩) w CH (Lib.hid (rof_any 1 1 (by omega) (by omega) (by omega) (by omega)))
        · rw [if_neg (by omega)]; exact rmean5n a b n p lv c q lw f ha' (by rw [beq_eq_false_iff_ne]; exact hb) w CH
  · rw [if_neg h0]
    exact rmean_no op a b n p lv c q lw f _ (by rw [bne_iff_ne]; exact h0) w CH
end Go.Proofs.YteapicfobammjaaDoor.Di
