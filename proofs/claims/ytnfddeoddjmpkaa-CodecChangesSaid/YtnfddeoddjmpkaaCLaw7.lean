/-
  The law of changes, walked.
-/
import Derived.Test.YtnfddeoddjmpkaaCMask
import Derived.Test.YtnfddeoddjmpkaaCLaw3
namespace Go.Proofs.Ytnfddeoddjmpkaa.Co
open Go.RowKit
set_option maxHeartbeats 4000000
/-- Four bytes in a block. -/
def Four (w : World) (g : Nat) (Y : List UInt8) : Prop := g < w.heap.size ∧ ∀ j, (h : j < Y.length) → w.cell? ⟨g, j, none⟩ = some (.int .u8 ((Y[j]).toNat : Int))
theorem four_box {w : World} {y z u t : Int} {a b c d : UInt8} (ha : (a.toNat : Int) = y) (hb : (b.toNat : Int) = z) (hc : (c.toNat : Int) = u) (hd : (d.toNat : Int) = t) : Four (w.alloc (.cells #[.int .u8 y, .int .u8 z, .int .u8 u, .int .u8 t] 43)) w.heap.size [a, b, c, d] := by
  subst ha hb hc hd
  refine ⟨by simp, fun j hj => ?_⟩
  have h : j = 0 ∨ j = 1 ∨ j = 2 ∨ j = 3 := by simp at hj; omega
  rcases h with rfl | rfl | rfl | rfl <;> (simp)
theorem four_on {w w2 : World} {g : Nat} {Y : List UInt8} (h : Four w g Y) (hb : Below w.heap.size w w2) : Four w2 g Y := ⟨Nat.lt_of_lt_of_le h.1 hb.size, fun j hj => (hb.cell (p := ⟨g, j, none⟩) h.1).trans (h.2 j hj)⟩
theorem four_at {w : World} {g j : Nat} {Y : List UInt8} (h : Four w g Y) (hj : j < Y.length) : ∃ y, Y[j]? = some y ∧ w.cell? ⟨g, j, none⟩ = some (.int .u8 (y.toNat : Int)) := ⟨Y[j], List.getElem?_eq_getElem hj, h.2 j hj⟩
theorem byt_row {w : World} {B n c : Nat} {p : Option Addr} {l : List UInt8} (h : w.ownsRow B 5 1 (.slice p n c) n (bv l)) (hn : n ≤ 9223372036854775807) : Byt w p n l := by
  obtain ⟨q, d, e, -, hb⟩ := byt_own h hn
  injection e with e1
  subst e1
  exact hb
/-- What the sums have to do with each other. -/
theorem sums_end {l Y : List UInt8} {n t j : Nat} (hl : l.length = n) (hY : Y.length = 4) (hj : j ≤ 4) (ht : t + j ≤ n) :
    ∃ V, sumC (xorL l (maskL n t (Y.take j))) = V ^^^ sumC (List.replicate n 0) ∧ sumC l ^^^ sumC (maskL n t (Y.take j)) = V ∧ V < 4294967296 ∧ (sumC l != sumC (xorL l (maskL n t (Y.take j)))) = anyB (Y.take j) := by
  have hm : (Y.take j).length = j := by rw [List.length_take]; omega
  have hlen := maskL_len (n := n) (t := t) (m := Y.take j) (by omega)
  refine ⟨_, ?_, rfl, Nat.xor_lt_two_pow (n := 32) (sumC_lt _) (sumC_lt _), ?_⟩
  · rw [sum3 (by rw [hl, hlen]), hl]
  · have h := sum_change (l := l) (m := Y.take j) (a := t) (b := n - t - (Y.take j).length) (by omega) (by omega)
    have h2 : sumC (xorL l (maskL n t (Y.take j))) = sumC l ↔ anyB (Y.take j) = false := h.trans anyB_iff.symm
    cases e : anyB (Y.take j)
    · rw [h2.2 e]; simp
    · rw [bne_iff_ne]
      intro e2
      rw [h2.1 e2.symm] at e
      cases e
theorem bne_cast {a b : Nat} {c : Bool} (h : c = (a != b)) : ((a : Int) != (b : Int)) = c := by
  subst h
  by_cases e : a = b
  · subst e; simp
  · rw [bne_iff_ne.2 e, bne_iff_ne]; omega
theorem own_form {w : World} {B n : Nat} {v : Value} {xs : List Value} (h : w.ownsRow B 5 1 v n xs) (hn : 0 < n) : ∃ g c, v = .slice (some ⟨g, 0, none⟩) n c ∧ n ≤ c ∧ B ≤ g ∧ g < w.heap.size := by
  rcases h.2 with ⟨-, h0⟩ | ⟨g, cap, cur, rfl, hb, hg, hc, -⟩
  · omega
  · exact ⟨g, cap, rfl, hc, hb, (Array.getElem?_eq_some_iff.1 hg).1⟩
theorem own_zeros {w : World} {B n : Nat} (hB : B ≤ w.heap.size) (hn : n ≤ 140737488355328) : (w.alloc (.cells (zs n).toArray 5)).ownsRow B 5 1 (.slice (some ⟨w.heap.size, 0, none⟩) n n) n (bv (List.replicate n 0)) :=
  ⟨by rw [bv_len, List.length_replicate]; omega, .inr ⟨_, n, _, rfl, hB, heap_alloc_new w _, Nat.le_refl _, by unfold maxLen; omega, by rw [List.size_toArray, zs_len]; omega, by rw [zs_bv]; simp; exact List.take_of_length_le (by rw [bv_len, List.length_replicate]; exact Nat.le_refl _)⟩⟩
set_option maxRecDepth 100000 in
theorem changes_core (p : Option Addr) (n c : Nat) (l : List UInt8) (t : Nat) (y0 y1 y2 y3 : Int) (a0 a1 a2 a3 : UInt8) (w : World) (_ : n ≤ c) (hb : Byt w p n l) (e0 : (a0.toNat : Int) = y0) (e1 : (a1.toNat : Int) = y1) (e2 : (a2.toNat : Int) = y2) (e3 : (a3.toNat : Int) = y3) (h3 : n ≤ 300) (ht : t < n) :
    Calls Try.prog 9 #[.slice p n c, .int .i64 (t : Nat), .agg #[.int .u8 y0, .int .u8 y1, .int .u8 y2, .int .u8 y3]] w (Gives (.bool true) w) := by
  have HF := Lib.hid (fewB_yes (n := n) (m := ByteArray.size ⟨#[]⟩) (k := 0) ⟨h3, by decide, by decide⟩)
  have F0 := Lib.hid (four_box (w := w) e0 e1 e2 e3)
  obtain ⟨W0, hW0⟩ : ∃ W, w.alloc (.cells #[.int .u8 y0, .int .u8 y1, .int .u8 y2, .int .u8 y3] 43) = W := ⟨_, rfl⟩
  have B0 := Lib.hid (show Below w.heap.size w W0 by rw [← hW0]; exact bl_alloc (Below.refl _ _))
  rw [hW0] at F0
  obtain ⟨Y, hY⟩ : ∃ Y, [a0, a1, a2, a3] = Y := ⟨_, rfl⟩
  have HY : Hid (Y.length = 4) := Lib.hid (by rw [← hY]; rfl)
  rw [hY] at F0
  have HB := Lib.hid (hb.on B0.out)
  have HL := Lib.hid hb.1
  obtain ⟨b, o, rfl⟩ : ∃ b o, p = some ⟨b, o, none⟩ := by
    rcases hb.2.2 with h | ⟨b, o, h, -⟩
    · omega
    · exact ⟨b, o, h⟩
  obtain ⟨v1, w1, r1, ho1, hb1⟩ := run_cat (c := c) (own_empty (Nat.le_refl W0.heap.size)) (by simp) (HB.out.alloc (o := .cells #[] 5)) (by omega)
  rw [List.nil_append, Nat.zero_add] at ho1
  obtain ⟨g1, c1, rfl, hc1, hg1, hg1'⟩ := own_form ho1 (by omega)
  have hB1 : Below W0.heap.size W0 w1 := ((Below.refl _ _).alloc (Nat.le_refl _) _).trans hb1
  have r2 := made_u8 n (by omega) w1
  have hz := own_zeros (B := W0.heap.size) (n := n) hB1.size (by omega)
  have hB2 : Below W0.heap.size W0 (w1.alloc (.cells (zs n).toArray 5)) := bl_alloc hB1
  have ho2 := ho1.alloc (.cells (zs n).toArray 5)
  obtain ⟨g2, hg2⟩ : ∃ g, w1.heap.size = g := ⟨_, rfl⟩
  rw [hg2] at hz r2 hg1'
  obtain ⟨w2, hw2⟩ : ∃ w', w1.alloc (.cells (zs n).toArray 5) = w' := ⟨_, rfl⟩
  rw [hw2] at hz r2 hB2 ho2
  have HC : Hid (Chg W0 l Y g1 c1 g2 n t 0 w2) := Lib.hid (by
    refine ⟨?_, ?_, hB2⟩
    · rw [List.take_zero, maskL_nil (by omega), ← HL.out, xorL_zero, HL.out]; exact ho2
    · rw [List.take_zero, maskL_nil (by omega)]; exact hz)
  have HNE : Hid (g1 ≠ g2) := Lib.hid (by omega)
  have t1 : decide ((t : Int) < 0) = false := decide_eq_false (by omega)
  have t2 : decide ((n : Int) ≤ (t : Int)) = false := decide_eq_false (by omega)
  have t2' : decide (n ≤ t) = false := decide_eq_false (by omega)
  have s1 : (n : Int) ≤ 300 := by omega
  have s2 : (0 : Int) ≤ (t : Int) := by omega
  have s3 : (t : Int) < (n : Int) := by omega
  have HT := Lib.hid ht
  have H3 := Lib.hid h3
  have HB1 := Lib.hid hc1
  clear hb ho1 ho2 hb1 hB1 hz hB2 hw2 e0 e1 e2 e3 hY hg1 hg1' hg2 ht h3 hc1
  have HW0 := Lib.hid hW0
  clear hW0
  go_enter Try.func9, Try.ntmps9
  go_wp2_with fail
  rw [HW0.out]
  refine (few_any _ n c ⟨#[]⟩ none 0 0 _).mono ?_
  rintro e w0 ⟨rfl, rfl⟩
  rw [HF.out]
  clear HF
  go_wp2_with (at_builtin; refine Lib.wpList_append_run _ rfl _ _ _ _ rfl _ _ rfl rfl _ _ r1 ?_)
  go_loopw [9, 10] (fun v i wr => ∃ (j : Nat) (cb : Bool), j ≤ 4 ∧ t + j ≤ n ∧ v = .bool cb ∧ i = .int .i64 (j : Nat) ∧ Hid (Chg W0 l Y g1 c1 g2 n t j wr) ∧ Hid (cb = anyB (Y.take j))) (fun _ i _ => 4 - (intOf i).toNat)
  case atStart => exact ⟨0, false, Nat.zero_le _, Nat.le_of_lt HT.out, rfl, rfl, HC, Lib.hid rfl⟩
  case round =>
    obtain ⟨j, cb, hj4, hjn, rfl, rfl, HCj, Hcb⟩ := hrel
    have j0 : (0 : Int) ≤ (j : Int) := by omega
    obtain ⟨M, hM⟩ : ∃ M, t + j = M := ⟨_, rfl⟩
    have m1 : (t : Int) + (j : Int) = (M : Int) := by omega
    have m2 : IntKind.i64.wrap (M : Int) = (M : Int) := by rw [IntKind.wrap_i64]; omega
    have m0 : (0 : Int) ≤ (M : Int) := by omega
    by_cases hlt : j < 4 ∧ M < n
    · obtain ⟨hj, hMn⟩ := hlt
      have x1 : decide ((j : Int) < 4) = true := decide_eq_true (by omega)
      have x2 : decide ((M : Int) < (n : Int)) = true := decide_eq_true (by omega)
      have x2' : decide (M < n) = true := decide_eq_true hMn
      have j4 : (j : Int) < 4 := by omega
      have m4 : (M : Int) < (n : Int) := by omega
      obtain ⟨h1, h2, h3⟩ := HCj.out
      obtain ⟨xb, hxb, f1⟩ := byt_at (HB.out.on h3) hMn
      obtain ⟨yb, hyb, f2⟩ := four_at (four_on F0.out h3) (j := j) (by rw [HY.out]; exact hj)
      have hxy := xor_u8 xb yb
      obtain ⟨zb, hzb⟩ : ∃ zb, xb ^^^ yb = zb := ⟨_, rfl⟩
      have HX := Lib.hid (Chg.one HCj.out HL.out HY.out hj hM hMn HNE.out hxb hyb)
      rw [hzb] at hxy HX
      obtain ⟨u, hu⟩ := own_there h1 hMn
      have fz1 := h1.frozenAt M
      have HYB := Lib.hid hyb
      have HM := Lib.hid hM
      have HJ := Lib.hid hj
      have HMN := Lib.hid hMn
      clear hzb hxb hyb h1 h2 h3 hj hMn hjn hj4 hM
      go_wp2_with fail
      go_region
      have HMid := Lib.hid HX.out.drew
      generalize (World.setCell wr ⟨g1, M, none⟩ (.int .u8 (zb.toNat : Int))).drew = w5 at HMid ⊢
      obtain ⟨h1, h2, h3⟩ := HMid.out
      obtain ⟨yb2, hyb2, f3⟩ := four_at (four_on F0.out h3) (j := j) (by rw [HY.out]; exact HJ.out)
      obtain rfl : yb = yb2 := by have := HYB.out; rw [this] at hyb2; injection hyb2
      obtain ⟨u2, hu2⟩ := own_there h2 HMN.out
      have fz2 := h2.frozenAt M
      have HC1 := Lib.hid (Mid.two HMid.out HY.out HJ.out HM.out HMN.out HNE.out HYB.out)
      clear h1 h2 h3 hyb2 hu fz1 f1 f2 hxy
      go_upto_region 11 with fail
      generalize World.setCell w5 ⟨g2, M, none⟩ (.int .u8 (yb.toNat : Int)) = w6 at HC1 ⊢
      have h3 := HC1.out.2.2
      obtain ⟨yb2, hyb2, f4⟩ := four_at (four_on F0.out h3) (j := j) (by rw [HY.out]; exact HJ.out)
      obtain rfl : yb = yb2 := by have := HYB.out; rw [this] at hyb2; injection hyb2
      have Hcb2 : Hid ((cb || yb != 0) = anyB (Y.take (j + 1))) := Lib.hid (by
        obtain ⟨hlt, hy⟩ := List.getElem?_eq_some_iff.1 HYB.out
        rw [List.take_succ_eq_append_getElem hlt, anyB_snoc, ← Hcb.out, hy])
      have HJ1 : Hid (j + 1 ≤ 4) := Lib.hid (by have := HJ.out; omega)
      have HJ2 : Hid (t + (j + 1) ≤ n) := Lib.hid (by have := HM.out; have := HMN.out; omega)
      clear h3 hyb2 f3 hu2 fz2
      cases cb
      · by_cases hy0 : yb = 0
        · have k1 : (((yb.toNat : Nat) : Int) != 0) = false := by rw [hy0]; rfl
          have k2 : (yb.toNat != 0) = false := by rw [hy0]; rfl
          have Hcb3 : Hid (false = anyB (Y.take (j + 1))) := Lib.hid (by rw [← Hcb2.out, hy0]; rfl)
          obtain ⟨yn, hyn⟩ : ∃ yn, yb.toNat = yn := ⟨_, rfl⟩
          rw [hyn] at k1 k2 f4
          clear hyn hy0
          go_wp2_with fail
          go_roundw
          case rel => exact ⟨j + 1, false, HJ1.out, HJ2.out, rfl, by go_num, HC1, Hcb3⟩
          case measure => simp [intOf]; omega
        · have k3 : yb.toNat ≠ 0 := fun e => hy0 (UInt8.toNat_inj.1 (by rw [e]; rfl))
          have k1 : (((yb.toNat : Nat) : Int) != 0) = true := bne_iff_ne.2 (by omega)
          have k2 : (yb.toNat != 0) = true := bne_iff_ne.2 k3
          have Hcb3 : Hid (true = anyB (Y.take (j + 1))) := Lib.hid (by rw [← Hcb2.out]; simp [hy0])
          obtain ⟨yn, hyn⟩ : ∃ yn, yb.toNat = yn := ⟨_, rfl⟩
          rw [hyn] at k1 k2 f4
          clear hyn hy0 k3
          go_wp2_with fail
          go_roundw
          case rel => exact ⟨j + 1, true, HJ1.out, HJ2.out, rfl, by go_num, HC1, Hcb3⟩
          case measure => simp [intOf]; omega
      · have Hcb3 : Hid (true = anyB (Y.take (j + 1))) := Lib.hid (by rw [← Hcb2.out]; simp)
        go_wp2_with fail
        go_roundw
        case rel => exact ⟨j + 1, true, HJ1.out, HJ2.out, rfl, by go_num, HC1, Hcb3⟩
        case measure => simp [intOf]; omega
    · have HJ := Lib.hid hj4
      have HE : Hid (t + j ≤ n) := Lib.hid hjn
      by_cases hj : j < 4
      · have z1 : decide ((j : Int) < 4) = true := decide_eq_true (by omega)
        have z2 : decide ((M : Int) < (n : Int)) = false := decide_eq_false (by omega)
        have z2' : decide (M < n) = false := decide_eq_false (by omega)
        clear hj
        have HM2 := Lib.hid HE.out
        obtain ⟨V, v1, v2, v3, v4⟩ := sums_end HL.out HY.out HJ.out HE.out
        obtain ⟨h1, h2, h3⟩ := HCj.out
        have HO := Lib.hid (byt_row h1 (by omega))
        have HK := Lib.hid (byt_row h2 (by omega))
        have HBB := Lib.hid h3
        have HN := Lib.hid (show n ≤ 140737488355328 by omega)
        obtain ⟨O, hO⟩ : ∃ O, xorL l (maskL n t (Y.take j)) = O := ⟨_, rfl⟩
        obtain ⟨K, hK⟩ : ∃ K, maskL n t (Y.take j) = K := ⟨_, rfl⟩
        rw [hO] at v1 v4 HO
        rw [hK] at v2 HK
        have HC2 := Lib.hid (Hcb.out.trans v4.symm)
        have S1 := Lib.hid fun p c w (hb : Byt w p n l) => sum_any p n c l w hb
        have S2 := Lib.hid fun p c w (hb : Byt w p n O) => sum_any p n c O w hb
        have S3 := Lib.hid fun p c w (hb : Byt w p n (List.replicate n 0)) => sum_any p n c _ w hb
        have S4 := Lib.hid fun p c w (hb : Byt w p n K) => sum_any p n c K w hb
        have x1 := sumC_lt l
        have x2 := sumC_lt (List.replicate n 0)
        have x3 := sumC_lt K
        obtain ⟨XL, hXL⟩ : ∃ X, sumC l = X := ⟨_, rfl⟩
        obtain ⟨XO, hXO⟩ : ∃ X, sumC O = X := ⟨_, rfl⟩
        obtain ⟨XZ, hXZ⟩ : ∃ X, sumC (List.replicate n 0) = X := ⟨_, rfl⟩
        obtain ⟨XK, hXK⟩ : ∃ X, sumC K = X := ⟨_, rfl⟩
        rw [hXL] at S1 v2 x1 HC2
        rw [hXO] at S2 v1 HC2
        rw [hXZ] at S3 v1 x2
        rw [hXK] at S4 v2 x3
        have q1 := xor_i64 x1 x3
        have q2 := xor_i64 v3 x2
        rw [v2] at q1
        rw [← v1] at q2
        have u1 : decide ((XL : Int) < 4294967296) = true := decide_eq_true (by omega)
        have u2 : (0 : Int) ≤ (XL : Int) := by omega
        have u3 : ((XL : Int) != (XO : Int)) = cb := bne_cast HC2.out
        have u3' : (XL != XO) = cb := HC2.out.symm
        have u4 : (cb == cb) = true := by cases cb <;> rfl
        have u5 : ((XO : Int) == (XO : Int)) = true := by simp
        clear v1 v2 v3 v4 h1 h2 h3 hO hK x1 x2 x3 hXL hXO hXZ hXK
        clear HC2 hjn hj4 hM
        (try clear hlt)
        go_wp2_with fail
        refine (S1.out _ _ _ (HB.out.on HBB.out)).mono ?_
        rintro e w6 ⟨rfl, hb6⟩
        have HB6 := Lib.hid (bl_call HBB.out hb6)
        have HO6 := Lib.hid (HO.out.on hb6)
        have HK6 := Lib.hid (HK.out.on hb6)
        clear hb6
        go_wp2_with fail
        refine (S2.out _ _ _ HO6.out).mono ?_
        rintro e w7 ⟨rfl, hb7⟩
        have HB7 := Lib.hid (bl_call HB6.out hb7)
        have HK7 := Lib.hid (HK6.out.on hb7)
        have q3 := made_u8 n HN.out w7
        have hz := byt_row (own_zeros (w := w7) (B := w7.heap.size) (n := n) (Nat.le_refl _) HN.out) (by have := HN.out; omega)
        obtain ⟨w8, hw8⟩ : ∃ w', w7.alloc (.cells (zs n).toArray 5) = w' := ⟨_, rfl⟩
        have hb8 : Below w7.heap.size w7 w8 := by rw [← hw8]; exact bl_alloc (Below.refl _ _)
        rw [hw8] at q3 hz
        have HZ := Lib.hid hz
        have HB8 := Lib.hid (bl_call HB7.out hb8)
        have HK8 := Lib.hid (HK7.out.on hb8)
        clear hb7 hb8 hw8 hz
        go_wp2_with fail
        refine (S3.out _ _ _ HZ.out).mono ?_
        rintro e w9 ⟨rfl, hb9⟩
        have HB9 := Lib.hid (bl_call HB8.out hb9)
        have HK9 := Lib.hid (HK8.out.on hb9)
        clear hb9 q3
        go_wp2_with fail
        refine (S4.out _ _ _ HK9.out).mono ?_
        rintro e w10 ⟨rfl, hb10⟩
        have HB10 := Lib.hid (bl_call HB9.out hb10)
        clear hb10
        go_wp2_with fail
        refine (awake_any _).mono ?_
        rintro e w11 ⟨rfl, hb11⟩
        go_wp2_with fail
        go_ret
        exact ⟨rfl, (B0.out.trans (HB10.out.mono B0.out.size)).trans (hb11.mono (Nat.le_trans B0.out.size HB10.out.size))⟩
      · have z1 : decide ((j : Int) < 4) = false := decide_eq_false (by omega)
        clear hj
        have HM2 := Lib.hid HE.out
        obtain ⟨V, v1, v2, v3, v4⟩ := sums_end HL.out HY.out HJ.out HE.out
        obtain ⟨h1, h2, h3⟩ := HCj.out
        have HO := Lib.hid (byt_row h1 (by omega))
        have HK := Lib.hid (byt_row h2 (by omega))
        have HBB := Lib.hid h3
        have HN := Lib.hid (show n ≤ 140737488355328 by omega)
        obtain ⟨O, hO⟩ : ∃ O, xorL l (maskL n t (Y.take j)) = O := ⟨_, rfl⟩
        obtain ⟨K, hK⟩ : ∃ K, maskL n t (Y.take j) = K := ⟨_, rfl⟩
        rw [hO] at v1 v4 HO
        rw [hK] at v2 HK
        have HC2 := Lib.hid (Hcb.out.trans v4.symm)
        have S1 := Lib.hid fun p c w (hb : Byt w p n l) => sum_any p n c l w hb
        have S2 := Lib.hid fun p c w (hb : Byt w p n O) => sum_any p n c O w hb
        have S3 := Lib.hid fun p c w (hb : Byt w p n (List.replicate n 0)) => sum_any p n c _ w hb
        have S4 := Lib.hid fun p c w (hb : Byt w p n K) => sum_any p n c K w hb
        have x1 := sumC_lt l
        have x2 := sumC_lt (List.replicate n 0)
        have x3 := sumC_lt K
        obtain ⟨XL, hXL⟩ : ∃ X, sumC l = X := ⟨_, rfl⟩
        obtain ⟨XO, hXO⟩ : ∃ X, sumC O = X := ⟨_, rfl⟩
        obtain ⟨XZ, hXZ⟩ : ∃ X, sumC (List.replicate n 0) = X := ⟨_, rfl⟩
        obtain ⟨XK, hXK⟩ : ∃ X, sumC K = X := ⟨_, rfl⟩
        rw [hXL] at S1 v2 x1 HC2
        rw [hXO] at S2 v1 HC2
        rw [hXZ] at S3 v1 x2
        rw [hXK] at S4 v2 x3
        have q1 := xor_i64 x1 x3
        have q2 := xor_i64 v3 x2
        rw [v2] at q1
        rw [← v1] at q2
        have u1 : decide ((XL : Int) < 4294967296) = true := decide_eq_true (by omega)
        have u2 : (0 : Int) ≤ (XL : Int) := by omega
        have u3 : ((XL : Int) != (XO : Int)) = cb := bne_cast HC2.out
        have u3' : (XL != XO) = cb := HC2.out.symm
        have u4 : (cb == cb) = true := by cases cb <;> rfl
        have u5 : ((XO : Int) == (XO : Int)) = true := by simp
        clear v1 v2 v3 v4 h1 h2 h3 hO hK x1 x2 x3 hXL hXO hXZ hXK
        clear HC2 hjn hj4 hM
        (try clear hlt)
        go_wp2_with fail
        refine (S1.out _ _ _ (HB.out.on HBB.out)).mono ?_
        rintro e w6 ⟨rfl, hb6⟩
        have HB6 := Lib.hid (bl_call HBB.out hb6)
        have HO6 := Lib.hid (HO.out.on hb6)
        have HK6 := Lib.hid (HK.out.on hb6)
        clear hb6
        go_wp2_with fail
        refine (S2.out _ _ _ HO6.out).mono ?_
        rintro e w7 ⟨rfl, hb7⟩
        have HB7 := Lib.hid (bl_call HB6.out hb7)
        have HK7 := Lib.hid (HK6.out.on hb7)
        have q3 := made_u8 n HN.out w7
        have hz := byt_row (own_zeros (w := w7) (B := w7.heap.size) (n := n) (Nat.le_refl _) HN.out) (by have := HN.out; omega)
        obtain ⟨w8, hw8⟩ : ∃ w', w7.alloc (.cells (zs n).toArray 5) = w' := ⟨_, rfl⟩
        have hb8 : Below w7.heap.size w7 w8 := by rw [← hw8]; exact bl_alloc (Below.refl _ _)
        rw [hw8] at q3 hz
        have HZ := Lib.hid hz
        have HB8 := Lib.hid (bl_call HB7.out hb8)
        have HK8 := Lib.hid (HK7.out.on hb8)
        clear hb7 hb8 hw8 hz
        go_wp2_with fail
        refine (S3.out _ _ _ HZ.out).mono ?_
        rintro e w9 ⟨rfl, hb9⟩
        have HB9 := Lib.hid (bl_call HB8.out hb9)
        have HK9 := Lib.hid (HK8.out.on hb9)
        clear hb9 q3
        go_wp2_with fail
        refine (S4.out _ _ _ HK9.out).mono ?_
        rintro e w10 ⟨rfl, hb10⟩
        have HB10 := Lib.hid (bl_call HB9.out hb10)
        clear hb10
        go_wp2_with fail
        refine (awake_any _).mono ?_
        rintro e w11 ⟨rfl, hb11⟩
        go_wp2_with fail
        go_ret
        exact ⟨rfl, (B0.out.trans (HB10.out.mono B0.out.size)).trans (hb11.mono (Nat.le_trans B0.out.size HB10.out.size))⟩
theorem codecChanges_walk (p : Option Addr) (n c : Nat) (l : List UInt8) (t : Int) (a0 a1 a2 a3 : UInt8) (w : World) (hc : n ≤ c) (hb : Byt w p n l) (_ : -9223372036854775808 ≤ t) (_ : t ≤ 9223372036854775807) :
    Calls Try.prog 9 #[.slice p n c, .int .i64 t, .agg #[.int .u8 (a0.toNat : Int), .int .u8 (a1.toNat : Int), .int .u8 (a2.toNat : Int), .int .u8 (a3.toNat : Int)]] w (Gives (.bool true) w) := by
  obtain ⟨y0, e0⟩ : ∃ y, (a0.toNat : Int) = y := ⟨_, rfl⟩
  obtain ⟨y1, e1⟩ : ∃ y, (a1.toNat : Int) = y := ⟨_, rfl⟩
  obtain ⟨y2, e2⟩ : ∃ y, (a2.toNat : Int) = y := ⟨_, rfl⟩
  obtain ⟨y3, e3⟩ : ∃ y, (a3.toNat : Int) = y := ⟨_, rfl⟩
  rw [e0, e1, e2, e3]
  by_cases h3 : n ≤ 300
  · have HF := Lib.hid (fewB_yes (n := n) (m := ByteArray.size ⟨#[]⟩) (k := 0) ⟨h3, by decide, by decide⟩)
    by_cases h0 : t < 0
    · have t1 : decide (t < 0) = true := decide_eq_true h0
      clear h0 h3 hb e0 e1 e2 e3
      go_enter Try.func9, Try.ntmps9
      go_wp2_with fail
      refine (few_any p n c ⟨#[]⟩ none 0 0 _).mono ?_
      rintro e w0 ⟨rfl, rfl⟩
      rw [HF.out]
      go_wp2_with fail
      refine (awake_any _).mono ?_
      rintro e w8 ⟨rfl, hb8⟩
      go_wp2_with fail
      go_ret
      exact ⟨rfl, bl_call (bl_alloc (Below.refl _ _)) hb8⟩
    · have t1 : decide (t < 0) = false := decide_eq_false h0
      by_cases h1 : (n : Int) ≤ t
      · have t2 : decide ((n : Int) ≤ t) = true := decide_eq_true h1
        clear h0 h3 hb h1 e0 e1 e2 e3
        go_enter Try.func9, Try.ntmps9
        go_wp2_with fail
        refine (few_any p n c ⟨#[]⟩ none 0 0 _).mono ?_
        rintro e w0 ⟨rfl, rfl⟩
        rw [HF.out]
        go_wp2_with fail
        refine (awake_any _).mono ?_
        rintro e w8 ⟨rfl, hb8⟩
        go_wp2_with fail
        go_ret
        exact ⟨rfl, bl_call (bl_alloc (Below.refl _ _)) hb8⟩
      · obtain ⟨k, rfl⟩ : ∃ k : Nat, t = (k : Int) := ⟨t.toNat, by omega⟩
        exact changes_core p n c l k y0 y1 y2 y3 a0 a1 a2 a3 w hc hb e0 e1 e2 e3 h3 (by omega)
  · have HF := Lib.hid (fewB_no (n := n) (m := ByteArray.size ⟨#[]⟩) (k := 0) (by omega))
    clear h3 hb e0 e1 e2 e3
    go_enter Try.func9, Try.ntmps9
    go_wp2_with fail
    refine (few_any p n c ⟨#[]⟩ none 0 0 _).mono ?_
    rintro e w0 ⟨rfl, rfl⟩
    rw [HF.out]
    go_wp2_with fail
    refine (awake_any _).mono ?_
    rintro e w8 ⟨rfl, hb8⟩
    go_wp2_with fail
    go_ret
    exact ⟨rfl, bl_call (bl_alloc (Below.refl _ _)) hb8⟩
end Go.Proofs.Ytnfddeoddjmpkaa.Co
