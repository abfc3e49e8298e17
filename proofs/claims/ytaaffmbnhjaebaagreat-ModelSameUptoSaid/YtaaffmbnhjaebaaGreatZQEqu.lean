/-
  Parts of this proof: The contracts of slices.Equal at its types.
-/
import Derived.Test.YtaaffmbnhjaebaaGreatZQIdx
namespace Go.Proofs.YtaaffmbnhjaebaaGreat.Md
open Go.RowKit
open Go.Proofs.YtaaffmbnhjaebaaGreat.Ex (Lo Gives ret_bool)
set_option maxHeartbeats 2000000
set_option linter.unusedVariables false
theorem eq_Val (x y : Val) (w : World) : (Op.equalIn 10000 63 (.agg (cVal x)) (.agg (cVal y))).run Tryz.prog w = .ok (vaB x y) w := by
 unfold cVal vaB
 go_simp
 by_cases h0 : x.nm.toList = y.nm.toList <;> by_cases h1 : x.ty = y.ty <;> by_cases h2 : x.n = y.n <;> simp [← tx_is, inB, *]
theorem zQEqu_4 {p : Prop} (h : p := by
 clear hr
 go_wp2_with fail
 go_quiet (fail)
 go_wp2_with fail
 go_roundw
 case rel => exact ⟨k + 1, by omega, by go_num, Lib.hid (by have HBB := HW.out; exact bl), H⟩
 case measure => simp [intOf]; omega
 ) : p := h
theorem zQEqu_0 {p : Prop} (h : p := by
 have H := Lib.hid (eqB_take HX.out HX2.out HA.out hr)
 rw [hr] at heq
 exact zQEqu_4
 ) : p := h
theorem zQEqu_1 {p : Prop} (h : p := by
 have H := Lib.hid (eqB_stop HX.out HX2.out hr)
 rw [hr] at heq
 clear hr
 go_wp2_with fail
 go_quiet (fail)
 go_wp2_with fail
 go_ret
 exact ⟨ret_bool H.out.symm, by have HBB := HW.out; exact bl⟩
 ) : p := h
theorem zQEqu_2 {p : Prop} (h : p := by
 go_wp2_with fail
 go_ret
 exact ⟨ret_bool HT.out.symm, HW.out⟩
 ) : p := h
theorem zQEqu_3 {p : Prop} (h : p := by
 go_wp2_with fail
 go_ret
 exact ⟨by rw [HN.out]; rfl, bl⟩
 ) : p := h
theorem zQEqu_5 {p : Prop} (h : p := by omega) : p := h
theorem zQEqu_6 {p : Prop} (h : p := by rw [HL2.out]; exact Nat.le_refl _) : p := h
theorem zQEqu_7 {p : Prop} (h : p := by rw [HL.out]; exact Nat.le_refl _) : p := h
set_option maxRecDepth 100000 in
theorem equ_Val {l l2 : List Val} {p p2 : Option Addr} {m m2 c c2 : Nat} {w : World} (hl : Hid (Rw 3 RVal (Lo w.heap.size) w l p m)) (hl2 : Hid (Rw 3 RVal (Lo w.heap.size) w l2 p2 m2)) :
 Calls Tryz.prog 45 #[.slice p m c, .slice p2 m2 c2] w (Gives (.bool (eqB vaB l l2)) w) := by
 obtain ⟨hlm, hm⟩ := hl.out.len
 obtain ⟨hlm2, hm2⟩ := hl2.out.len
 have HL := Lib.hid hlm
 have HL2 := Lib.hid hlm2
 have t3 : (m : Int) ≤ 9223372036854775807 := by omega
 by_cases hmm : m = m2
 rotate_left 1
 · have HN := Lib.hid (eqB_len (f := vaB) (l := l) (m := l2) zQEqu_5)
   have u1 : ((m : Int) == (m2 : Int)) = false := beq_eq_false_iff_ne.2 zQEqu_5
   have u2 : ((m : Int) != (m2 : Int)) = true := bne_iff_ne.2 zQEqu_5
   have u3 : (m == m2) = false := beq_eq_false_iff_ne.2 hmm
   have u4 : (m != m2) = true := bne_iff_ne.2 hmm
   clear hlm hm hlm2 hm2 t3
   go_enter Tryz.func45, Tryz.ntmps45
   exact zQEqu_3
 subst hmm
 clear hlm hm hlm2 hm2
 obtain ⟨kk, hkk⟩ : ∃ n : Nat, 3 = n := ⟨_, rfl⟩
 have hsz : ∀ w, (sizeOf 63).run Tryz.prog w = .ok kk w := fun w => by rw [Tryz.sizeOf63, hkk]
 have HKK := Lib.hid hkk
 clear hkk
 go_enter Tryz.func45, Tryz.ntmps45
 go_wp2_with fail
 go_loopw [13] (fun i wr => ∃ k : Nat, k ≤ m ∧ i = .int .i64 (k : Nat) ∧ Hid (Below w.heap.size w wr) ∧ Hid (eqB vaB (l.take k) (l2.take k) = true)) (fun i _ => m - (intOf i).toNat)
 case atStart => exact ⟨0, Nat.zero_le _, rfl, Lib.hid (Below.refl _ _), Lib.hid rfl⟩
 case round =>
  obtain ⟨k, hk, rfl, HW, HA⟩ := hrel
  have k0 : (0 : Int) ≤ (k : Int) := by omega
  rcases Nat.lt_or_ge k m with h | h
  · have k1 : (k : Int) < (m : Int) := by omega
    have hkl : k < l.length := by rw [HL.out]; exact h
    have hkl2 : k < l2.length := by rw [HL2.out]; exact h
    have HX := Lib.hid (List.getElem?_eq_getElem hkl)
    have HX2 := Lib.hid (List.getElem?_eq_getElem hkl2)
    obtain ⟨b, o, rfl, hbG, hG, hcell⟩ := (hl.out.below RVal.map HW.out).rows zQEqu_5
    obtain ⟨c, hcs, hat, hR⟩ := hcell.out k hkl
    obtain ⟨b2, o2, rfl, hbG2, hG2, hcell2⟩ := (hl2.out.below RVal.map HW.out).rows zQEqu_5
    obtain ⟨d, hcs2, hat2, hR2⟩ := hcell2.out k hkl2
    have hcsz : c.size = kk := by rw [hcs, HKK.out]
    have hcsz2 : d.size = kk := by rw [hcs2, HKK.out]
    have bt : Big 63 c.size := by rw [hcs]; exact bVal
    have bt2 : Big 63 d.size := by rw [hcs2]; exact bVal
    have ld1 := fun n => At.ldN (w := wr.drewN n) (hat.at HKK.out) hcsz
    have ld2 := fun n => At.ldV (w := wr.drewN n) (hat.at HKK.out) bt
    have ld3 := fun n => At.ldA (w := wr.drewN n) (hat.at HKK.out) bt
    have ld4 := fun n => At.ldN (w := wr.drewN n) (hat2.at HKK.out) hcsz2
    have ld5 := fun n => At.ldV (w := wr.drewN n) (hat2.at HKK.out) bt2
    have ld6 := fun n => At.ldA (w := wr.drewN n) (hat2.at HKK.out) bt2
    have heq : ∀ W, (Op.equalIn 10000 63 (.agg c) (.agg d)).run Tryz.prog W = .ok (vaB l[k] l2[k]) W := fun W => by rw [hR, hR2]; exact eq_Val _ _ W
    obtain ⟨x, hx⟩ : ∃ x, l[k] = x := ⟨_, rfl⟩
    obtain ⟨y, hy⟩ : ∃ y, l2[k] = y := ⟨_, rfl⟩
    rw [hx] at HX heq
    rw [hy] at HX2 heq
    clear bt bt2 hx hy
    clear hcell hcs hat hR hkl hcell2 hcs2 hat2 hR2 hkl2
    cases hr : vaB x y
    · exact zQEqu_1
    · exact zQEqu_0
  · obtain rfl : m = k := by omega
    have HT := Lib.hid (show eqB vaB l l2 = true by have h1 := HA.out; rwa [List.take_of_length_le zQEqu_7, List.take_of_length_le zQEqu_6] at h1)
    exact zQEqu_2
theorem eq_Chg (x y : Chg) (w : World) : (Op.equalIn 10000 163 (.agg (cChg x)) (.agg (cChg y))).run Tryz.prog w = .ok (chB x y) w := by
 unfold cChg chB
 go_simp
 by_cases h0 : x.t = y.t <;> by_cases h1 : x.u = y.u <;> simp [inB, *]
set_option maxRecDepth 100000 in
theorem equ_Chg {l l2 : List Chg} {p p2 : Option Addr} {m m2 c c2 : Nat} {w : World} (hl : Hid (Rw 2 RChg (Lo w.heap.size) w l p m)) (hl2 : Hid (Rw 2 RChg (Lo w.heap.size) w l2 p2 m2)) :
 Calls Tryz.prog 122 #[.slice p m c, .slice p2 m2 c2] w (Gives (.bool (eqB chB l l2)) w) := by
 obtain ⟨hlm, hm⟩ := hl.out.len
 obtain ⟨hlm2, hm2⟩ := hl2.out.len
 have HL := Lib.hid hlm
 have HL2 := Lib.hid hlm2
 have t3 : (m : Int) ≤ 9223372036854775807 := by omega
 by_cases hmm : m = m2
 rotate_left 1
 · have HN := Lib.hid (eqB_len (f := chB) (l := l) (m := l2) zQEqu_5)
   have u1 : ((m : Int) == (m2 : Int)) = false := beq_eq_false_iff_ne.2 zQEqu_5
   have u2 : ((m : Int) != (m2 : Int)) = true := bne_iff_ne.2 zQEqu_5
   have u3 : (m == m2) = false := beq_eq_false_iff_ne.2 hmm
   have u4 : (m != m2) = true := bne_iff_ne.2 hmm
   clear hlm hm hlm2 hm2 t3
   go_enter Tryz.func122, Tryz.ntmps122
   exact zQEqu_3
 subst hmm
 clear hlm hm hlm2 hm2
 obtain ⟨kk, hkk⟩ : ∃ n : Nat, 2 = n := ⟨_, rfl⟩
 have hsz : ∀ w, (sizeOf 163).run Tryz.prog w = .ok kk w := fun w => by rw [Tryz.sizeOf163, hkk]
 have HKK := Lib.hid hkk
 clear hkk
 go_enter Tryz.func122, Tryz.ntmps122
 go_wp2_with fail
 go_loopw [13] (fun i wr => ∃ k : Nat, k ≤ m ∧ i = .int .i64 (k : Nat) ∧ Hid (Below w.heap.size w wr) ∧ Hid (eqB chB (l.take k) (l2.take k) = true)) (fun i _ => m - (intOf i).toNat)
 case atStart => exact ⟨0, Nat.zero_le _, rfl, Lib.hid (Below.refl _ _), Lib.hid rfl⟩
 case round =>
  obtain ⟨k, hk, rfl, HW, HA⟩ := hrel
  have k0 : (0 : Int) ≤ (k : Int) := by omega
  rcases Nat.lt_or_ge k m with h | h
  · have k1 : (k : Int) < (m : Int) := by omega
    have hkl : k < l.length := by rw [HL.out]; exact h
    have hkl2 : k < l2.length := by rw [HL2.out]; exact h
    have HX := Lib.hid (List.getElem?_eq_getElem hkl)
    have HX2 := Lib.hid (List.getElem?_eq_getElem hkl2)
    obtain ⟨b, o, rfl, hbG, hG, hcell⟩ := (hl.out.below RChg.map HW.out).rows zQEqu_5
    obtain ⟨c, hcs, hat, hR⟩ := hcell.out k hkl
    obtain ⟨b2, o2, rfl, hbG2, hG2, hcell2⟩ := (hl2.out.below RChg.map HW.out).rows zQEqu_5
    obtain ⟨d, hcs2, hat2, hR2⟩ := hcell2.out k hkl2
    have hcsz : c.size = kk := by rw [hcs, HKK.out]
    have hcsz2 : d.size = kk := by rw [hcs2, HKK.out]
    have bt : Big 163 c.size := by rw [hcs]; exact bChg
    have bt2 : Big 163 d.size := by rw [hcs2]; exact bChg
    have ld1 := fun n => At.ldN (w := wr.drewN n) (hat.at HKK.out) hcsz
    have ld2 := fun n => At.ldV (w := wr.drewN n) (hat.at HKK.out) bt
    have ld3 := fun n => At.ldA (w := wr.drewN n) (hat.at HKK.out) bt
    have ld4 := fun n => At.ldN (w := wr.drewN n) (hat2.at HKK.out) hcsz2
    have ld5 := fun n => At.ldV (w := wr.drewN n) (hat2.at HKK.out) bt2
    have ld6 := fun n => At.ldA (w := wr.drewN n) (hat2.at HKK.out) bt2
    have heq : ∀ W, (Op.equalIn 10000 163 (.agg c) (.agg d)).run Tryz.prog W = .ok (chB l[k] l2[k]) W := fun W => by rw [hR, hR2]; exact eq_Chg _ _ W
    obtain ⟨x, hx⟩ : ∃ x, l[k] = x := ⟨_, rfl⟩
    obtain ⟨y, hy⟩ : ∃ y, l2[k] = y := ⟨_, rfl⟩
    rw [hx] at HX heq
    rw [hy] at HX2 heq
    clear bt bt2 hx hy
    clear hcell hcs hat hR hkl hcell2 hcs2 hat2 hR2 hkl2
    cases hr : chB x y
    · exact zQEqu_1
    · exact zQEqu_0
  · obtain rfl : m = k := by omega
    have HT := Lib.hid (show eqB chB l l2 = true by have h1 := HA.out; rwa [List.take_of_length_le zQEqu_7, List.take_of_length_le zQEqu_6] at h1)
    exact zQEqu_2
theorem eq_Sto (x y : Sto) (w : World) : (Op.equalIn 10000 95 (.agg (cSto x)) (.agg (cSto y))).run Tryz.prog w = .ok (soB x y) w := by
 unfold cSto soB
 go_simp
 by_cases h0 : x.nm.toList = y.nm.toList <;> by_cases h1 : x.rm = y.rm <;> by_cases h2 : x.po = y.po <;> simp [← tx_is, inB, *]
set_option maxRecDepth 100000 in
theorem equ_Sto {l l2 : List Sto} {p p2 : Option Addr} {m m2 c c2 : Nat} {w : World} (hl : Hid (Rw 3 RSto (Lo w.heap.size) w l p m)) (hl2 : Hid (Rw 3 RSto (Lo w.heap.size) w l2 p2 m2)) :
 Calls Tryz.prog 82 #[.slice p m c, .slice p2 m2 c2] w (Gives (.bool (eqB soB l l2)) w) := by
 obtain ⟨hlm, hm⟩ := hl.out.len
 obtain ⟨hlm2, hm2⟩ := hl2.out.len
 have HL := Lib.hid hlm
 have HL2 := Lib.hid hlm2
 have t3 : (m : Int) ≤ 9223372036854775807 := by omega
 by_cases hmm : m = m2
 rotate_left 1
 · have HN := Lib.hid (eqB_len (f := soB) (l := l) (m := l2) zQEqu_5)
   have u1 : ((m : Int) == (m2 : Int)) = false := beq_eq_false_iff_ne.2 zQEqu_5
   have u2 : ((m : Int) != (m2 : Int)) = true := bne_iff_ne.2 zQEqu_5
   have u3 : (m == m2) = false := beq_eq_false_iff_ne.2 hmm
   have u4 : (m != m2) = true := bne_iff_ne.2 hmm
   clear hlm hm hlm2 hm2 t3
   go_enter Tryz.func82, Tryz.ntmps82
   exact zQEqu_3
 subst hmm
 clear hlm hm hlm2 hm2
 obtain ⟨kk, hkk⟩ : ∃ n : Nat, 3 = n := ⟨_, rfl⟩
 have hsz : ∀ w, (sizeOf 95).run Tryz.prog w = .ok kk w := fun w => by rw [Tryz.sizeOf95, hkk]
 have HKK := Lib.hid hkk
 clear hkk
 go_enter Tryz.func82, Tryz.ntmps82
 go_wp2_with fail
 go_loopw [13] (fun i wr => ∃ k : Nat, k ≤ m ∧ i = .int .i64 (k : Nat) ∧ Hid (Below w.heap.size w wr) ∧ Hid (eqB soB (l.take k) (l2.take k) = true)) (fun i _ => m - (intOf i).toNat)
 case atStart => exact ⟨0, Nat.zero_le _, rfl, Lib.hid (Below.refl _ _), Lib.hid rfl⟩
 case round =>
  obtain ⟨k, hk, rfl, HW, HA⟩ := hrel
  have k0 : (0 : Int) ≤ (k : Int) := by omega
  rcases Nat.lt_or_ge k m with h | h
  · have k1 : (k : Int) < (m : Int) := by omega
    have hkl : k < l.length := by rw [HL.out]; exact h
    have hkl2 : k < l2.length := by rw [HL2.out]; exact h
    have HX := Lib.hid (List.getElem?_eq_getElem hkl)
    have HX2 := Lib.hid (List.getElem?_eq_getElem hkl2)
    obtain ⟨b, o, rfl, hbG, hG, hcell⟩ := (hl.out.below RSto.map HW.out).rows zQEqu_5
    obtain ⟨c, hcs, hat, hR⟩ := hcell.out k hkl
    obtain ⟨b2, o2, rfl, hbG2, hG2, hcell2⟩ := (hl2.out.below RSto.map HW.out).rows zQEqu_5
    obtain ⟨d, hcs2, hat2, hR2⟩ := hcell2.out k hkl2
    have hcsz : c.size = kk := by rw [hcs, HKK.out]
    have hcsz2 : d.size = kk := by rw [hcs2, HKK.out]
    have bt : Big 95 c.size := by rw [hcs]; exact bSto
    have bt2 : Big 95 d.size := by rw [hcs2]; exact bSto
    have ld1 := fun n => At.ldN (w := wr.drewN n) (hat.at HKK.out) hcsz
    have ld2 := fun n => At.ldV (w := wr.drewN n) (hat.at HKK.out) bt
    have ld3 := fun n => At.ldA (w := wr.drewN n) (hat.at HKK.out) bt
    have ld4 := fun n => At.ldN (w := wr.drewN n) (hat2.at HKK.out) hcsz2
    have ld5 := fun n => At.ldV (w := wr.drewN n) (hat2.at HKK.out) bt2
    have ld6 := fun n => At.ldA (w := wr.drewN n) (hat2.at HKK.out) bt2
    have heq : ∀ W, (Op.equalIn 10000 95 (.agg c) (.agg d)).run Tryz.prog W = .ok (soB l[k] l2[k]) W := fun W => by rw [hR, hR2]; exact eq_Sto _ _ W
    obtain ⟨x, hx⟩ : ∃ x, l[k] = x := ⟨_, rfl⟩
    obtain ⟨y, hy⟩ : ∃ y, l2[k] = y := ⟨_, rfl⟩
    rw [hx] at HX heq
    rw [hy] at HX2 heq
    clear bt bt2 hx hy
    clear hcell hcs hat hR hkl hcell2 hcs2 hat2 hR2 hkl2
    cases hr : soB x y
    · exact zQEqu_1
    · exact zQEqu_0
  · obtain rfl : m = k := by omega
    have HT := Lib.hid (show eqB soB l l2 = true by have h1 := HA.out; rwa [List.take_of_length_le zQEqu_7, List.take_of_length_le zQEqu_6] at h1)
    exact zQEqu_2
theorem eq_Blt (x y : Blt) (w : World) : (Op.equalIn 10000 97 (.agg (cBlt x)) (.agg (cBlt y))).run Tryz.prog w = .ok (blB x y) w := by
 unfold cBlt blB
 go_simp
 by_cases h0 : x.nm.toList = y.nm.toList <;> by_cases h1 : x.ln = y.ln <;> by_cases h2 : x.sp = y.sp <;> simp [← tx_is, inB, *]
set_option maxRecDepth 100000 in
theorem equ_Blt {l l2 : List Blt} {p p2 : Option Addr} {m m2 c c2 : Nat} {w : World} (hl : Hid (Rw 3 RBlt (Lo w.heap.size) w l p m)) (hl2 : Hid (Rw 3 RBlt (Lo w.heap.size) w l2 p2 m2)) :
 Calls Tryz.prog 83 #[.slice p m c, .slice p2 m2 c2] w (Gives (.bool (eqB blB l l2)) w) := by
 obtain ⟨hlm, hm⟩ := hl.out.len
 obtain ⟨hlm2, hm2⟩ := hl2.out.len
 have HL := Lib.hid hlm
 have HL2 := Lib.hid hlm2
 have t3 : (m : Int) ≤ 9223372036854775807 := by omega
 by_cases hmm : m = m2
 rotate_left 1
 · have HN := Lib.hid (eqB_len (f := blB) (l := l) (m := l2) zQEqu_5)
   have u1 : ((m : Int) == (m2 : Int)) = false := beq_eq_false_iff_ne.2 zQEqu_5
   have u2 : ((m : Int) != (m2 : Int)) = true := bne_iff_ne.2 zQEqu_5
   have u3 : (m == m2) = false := beq_eq_false_iff_ne.2 hmm
   have u4 : (m != m2) = true := bne_iff_ne.2 hmm
   clear hlm hm hlm2 hm2 t3
   go_enter Tryz.func83, Tryz.ntmps83
   exact zQEqu_3
 subst hmm
 clear hlm hm hlm2 hm2
 obtain ⟨kk, hkk⟩ : ∃ n : Nat, 3 = n := ⟨_, rfl⟩
 have hsz : ∀ w, (sizeOf 97).run Tryz.prog w = .ok kk w := fun w => by rw [Tryz.sizeOf97, hkk]
 have HKK := Lib.hid hkk
 clear hkk
 go_enter Tryz.func83, Tryz.ntmps83
 go_wp2_with fail
 go_loopw [13] (fun i wr => ∃ k : Nat, k ≤ m ∧ i = .int .i64 (k : Nat) ∧ Hid (Below w.heap.size w wr) ∧ Hid (eqB blB (l.take k) (l2.take k) = true)) (fun i _ => m - (intOf i).toNat)
 case atStart => exact ⟨0, Nat.zero_le _, rfl, Lib.hid (Below.refl _ _), Lib.hid rfl⟩
 case round =>
  obtain ⟨k, hk, rfl, HW, HA⟩ := hrel
  have k0 : (0 : Int) ≤ (k : Int) := by omega
  rcases Nat.lt_or_ge k m with h | h
  · have k1 : (k : Int) < (m : Int) := by omega
    have hkl : k < l.length := by rw [HL.out]; exact h
    have hkl2 : k < l2.length := by rw [HL2.out]; exact h
    have HX := Lib.hid (List.getElem?_eq_getElem hkl)
    have HX2 := Lib.hid (List.getElem?_eq_getElem hkl2)
    obtain ⟨b, o, rfl, hbG, hG, hcell⟩ := (hl.out.below RBlt.map HW.out).rows zQEqu_5
    obtain ⟨c, hcs, hat, hR⟩ := hcell.out k hkl
    obtain ⟨b2, o2, rfl, hbG2, hG2, hcell2⟩ := (hl2.out.below RBlt.map HW.out).rows zQEqu_5
    obtain ⟨d, hcs2, hat2, hR2⟩ := hcell2.out k hkl2
    have hcsz : c.size = kk := by rw [hcs, HKK.out]
    have hcsz2 : d.size = kk := by rw [hcs2, HKK.out]
    have bt : Big 97 c.size := by rw [hcs]; exact bBlt
    have bt2 : Big 97 d.size := by rw [hcs2]; exact bBlt
    have ld1 := fun n => At.ldN (w := wr.drewN n) (hat.at HKK.out) hcsz
    have ld2 := fun n => At.ldV (w := wr.drewN n) (hat.at HKK.out) bt
    have ld3 := fun n => At.ldA (w := wr.drewN n) (hat.at HKK.out) bt
    have ld4 := fun n => At.ldN (w := wr.drewN n) (hat2.at HKK.out) hcsz2
    have ld5 := fun n => At.ldV (w := wr.drewN n) (hat2.at HKK.out) bt2
    have ld6 := fun n => At.ldA (w := wr.drewN n) (hat2.at HKK.out) bt2
    have heq : ∀ W, (Op.equalIn 10000 97 (.agg c) (.agg d)).run Tryz.prog W = .ok (blB l[k] l2[k]) W := fun W => by rw [hR, hR2]; exact eq_Blt _ _ W
    obtain ⟨x, hx⟩ : ∃ x, l[k] = x := ⟨_, rfl⟩
    obtain ⟨y, hy⟩ : ∃ y, l2[k] = y := ⟨_, rfl⟩
    rw [hx] at HX heq
    rw [hy] at HX2 heq
    clear bt bt2 hx hy
    clear hcell hcs hat hR hkl hcell2 hcs2 hat2 hR2 hkl2
    cases hr : blB x y
    · exact zQEqu_1
    · exact zQEqu_0
  · obtain rfl : m = k := by omega
    have HT := Lib.hid (show eqB blB l l2 = true by have h1 := HA.out; rwa [List.take_of_length_le zQEqu_7, List.take_of_length_le zQEqu_6] at h1)
    exact zQEqu_2
theorem eq_Fld (x y : Fld) (w : World) : (Op.equalIn 10000 103 (.agg (cFld x)) (.agg (cFld y))).run Tryz.prog w = .ok (fdB x y) w := by
 unfold cFld fdB
 go_simp
 by_cases h0 : x.nm.toList = y.nm.toList <;> by_cases h1 : x.ty = y.ty <;> simp [← tx_is, inB, *]
set_option maxRecDepth 100000 in
theorem equ_Fld {l l2 : List Fld} {p p2 : Option Addr} {m m2 c c2 : Nat} {w : World} (hl : Hid (Rw 2 RFld (Lo w.heap.size) w l p m)) (hl2 : Hid (Rw 2 RFld (Lo w.heap.size) w l2 p2 m2)) :
 Calls Tryz.prog 124 #[.slice p m c, .slice p2 m2 c2] w (Gives (.bool (eqB fdB l l2)) w) := by
 obtain ⟨hlm, hm⟩ := hl.out.len
 obtain ⟨hlm2, hm2⟩ := hl2.out.len
 have HL := Lib.hid hlm
 have HL2 := Lib.hid hlm2
 have t3 : (m : Int) ≤ 9223372036854775807 := by omega
 by_cases hmm : m = m2
 rotate_left 1
 · have HN := Lib.hid (eqB_len (f := fdB) (l := l) (m := l2) zQEqu_5)
   have u1 : ((m : Int) == (m2 : Int)) = false := beq_eq_false_iff_ne.2 zQEqu_5
   have u2 : ((m : Int) != (m2 : Int)) = true := bne_iff_ne.2 zQEqu_5
   have u3 : (m == m2) = false := beq_eq_false_iff_ne.2 hmm
   have u4 : (m != m2) = true := bne_iff_ne.2 hmm
   clear hlm hm hlm2 hm2 t3
   go_enter Tryz.func124, Tryz.ntmps124
   exact zQEqu_3
 subst hmm
 clear hlm hm hlm2 hm2
 obtain ⟨kk, hkk⟩ : ∃ n : Nat, 2 = n := ⟨_, rfl⟩
 have hsz : ∀ w, (sizeOf 103).run Tryz.prog w = .ok kk w := fun w => by rw [Tryz.sizeOf103, hkk]
 have HKK := Lib.hid hkk
 clear hkk
 go_enter Tryz.func124, Tryz.ntmps124
 go_wp2_with fail
 go_loopw [13] (fun i wr => ∃ k : Nat, k ≤ m ∧ i = .int .i64 (k : Nat) ∧ Hid (Below w.heap.size w wr) ∧ Hid (eqB fdB (l.take k) (l2.take k) = true)) (fun i _ => m - (intOf i).toNat)
 case atStart => exact ⟨0, Nat.zero_le _, rfl, Lib.hid (Below.refl _ _), Lib.hid rfl⟩
 case round =>
  obtain ⟨k, hk, rfl, HW, HA⟩ := hrel
  have k0 : (0 : Int) ≤ (k : Int) := by omega
  rcases Nat.lt_or_ge k m with h | h
  · have k1 : (k : Int) < (m : Int) := by omega
    have hkl : k < l.length := by rw [HL.out]; exact h
    have hkl2 : k < l2.length := by rw [HL2.out]; exact h
    have HX := Lib.hid (List.getElem?_eq_getElem hkl)
    have HX2 := Lib.hid (List.getElem?_eq_getElem hkl2)
    obtain ⟨b, o, rfl, hbG, hG, hcell⟩ := (hl.out.below RFld.map HW.out).rows zQEqu_5
    obtain ⟨c, hcs, hat, hR⟩ := hcell.out k hkl
    obtain ⟨b2, o2, rfl, hbG2, hG2, hcell2⟩ := (hl2.out.below RFld.map HW.out).rows zQEqu_5
    obtain ⟨d, hcs2, hat2, hR2⟩ := hcell2.out k hkl2
    have hcsz : c.size = kk := by rw [hcs, HKK.out]
    have hcsz2 : d.size = kk := by rw [hcs2, HKK.out]
    have bt : Big 103 c.size := by rw [hcs]; exact bFld
    have bt2 : Big 103 d.size := by rw [hcs2]; exact bFld
    have ld1 := fun n => At.ldN (w := wr.drewN n) (hat.at HKK.out) hcsz
    have ld2 := fun n => At.ldV (w := wr.drewN n) (hat.at HKK.out) bt
    have ld3 := fun n => At.ldA (w := wr.drewN n) (hat.at HKK.out) bt
    have ld4 := fun n => At.ldN (w := wr.drewN n) (hat2.at HKK.out) hcsz2
    have ld5 := fun n => At.ldV (w := wr.drewN n) (hat2.at HKK.out) bt2
    have ld6 := fun n => At.ldA (w := wr.drewN n) (hat2.at HKK.out) bt2
    have heq : ∀ W, (Op.equalIn 10000 103 (.agg c) (.agg d)).run Tryz.prog W = .ok (fdB l[k] l2[k]) W := fun W => by rw [hR, hR2]; exact eq_Fld _ _ W
    obtain ⟨x, hx⟩ : ∃ x, l[k] = x := ⟨_, rfl⟩
    obtain ⟨y, hy⟩ : ∃ y, l2[k] = y := ⟨_, rfl⟩
    rw [hx] at HX heq
    rw [hy] at HX2 heq
    clear bt bt2 hx hy
    clear hcell hcs hat hR hkl hcell2 hcs2 hat2 hR2 hkl2
    cases hr : fdB x y
    · exact zQEqu_1
    · exact zQEqu_0
  · obtain rfl : m = k := by omega
    have HT := Lib.hid (show eqB fdB l l2 = true by have h1 := HA.out; rwa [List.take_of_length_le zQEqu_7, List.take_of_length_le zQEqu_6] at h1)
    exact zQEqu_2
theorem eq_Lnk (x y : Lnk) (w : World) : (Op.equalIn 10000 49 (.agg (cLnk x)) (.agg (cLnk y))).run Tryz.prog w = .ok (lkB x y) w := by
 unfold cLnk lkB
 go_simp
 by_cases h0 : x.fr.toList = y.fr.toList <;> by_cases h1 : x.tt.toList = y.tt.toList <;> by_cases h2 : x.de = y.de <;> simp [← tx_is, inB, *]
set_option maxRecDepth 100000 in
theorem equ_Lnk {l l2 : List Lnk} {p p2 : Option Addr} {m m2 c c2 : Nat} {w : World} (hl : Hid (Rw 3 RLnk (Lo w.heap.size) w l p m)) (hl2 : Hid (Rw 3 RLnk (Lo w.heap.size) w l2 p2 m2)) :
 Calls Tryz.prog 48 #[.slice p m c, .slice p2 m2 c2] w (Gives (.bool (eqB lkB l l2)) w) := by
 obtain ⟨hlm, hm⟩ := hl.out.len
 obtain ⟨hlm2, hm2⟩ := hl2.out.len
 have HL := Lib.hid hlm
 have HL2 := Lib.hid hlm2
 have t3 : (m : Int) ≤ 9223372036854775807 := by omega
 by_cases hmm : m = m2
 rotate_left 1
 · have HN := Lib.hid (eqB_len (f := lkB) (l := l) (m := l2) zQEqu_5)
   have u1 : ((m : Int) == (m2 : Int)) = false := beq_eq_false_iff_ne.2 zQEqu_5
   have u2 : ((m : Int) != (m2 : Int)) = true := bne_iff_ne.2 zQEqu_5
   have u3 : (m == m2) = false := beq_eq_false_iff_ne.2 hmm
   have u4 : (m != m2) = true := bne_iff_ne.2 hmm
   clear hlm hm hlm2 hm2 t3
   go_enter Tryz.func48, Tryz.ntmps48
   exact zQEqu_3
 subst hmm
 clear hlm hm hlm2 hm2
 obtain ⟨kk, hkk⟩ : ∃ n : Nat, 3 = n := ⟨_, rfl⟩
 have hsz : ∀ w, (sizeOf 49).run Tryz.prog w = .ok kk w := fun w => by rw [Tryz.sizeOf49, hkk]
 have HKK := Lib.hid hkk
 clear hkk
 go_enter Tryz.func48, Tryz.ntmps48
 go_wp2_with fail
 go_loopw [13] (fun i wr => ∃ k : Nat, k ≤ m ∧ i = .int .i64 (k : Nat) ∧ Hid (Below w.heap.size w wr) ∧ Hid (eqB lkB (l.take k) (l2.take k) = true)) (fun i _ => m - (intOf i).toNat)
 case atStart => exact ⟨0, Nat.zero_le _, rfl, Lib.hid (Below.refl _ _), Lib.hid rfl⟩
 case round =>
  obtain ⟨k, hk, rfl, HW, HA⟩ := hrel
  have k0 : (0 : Int) ≤ (k : Int) := by omega
  rcases Nat.lt_or_ge k m with h | h
  · have k1 : (k : Int) < (m : Int) := by omega
    have hkl : k < l.length := by rw [HL.out]; exact h
    have hkl2 : k < l2.length := by rw [HL2.out]; exact h
    have HX := Lib.hid (List.getElem?_eq_getElem hkl)
    have HX2 := Lib.hid (List.getElem?_eq_getElem hkl2)
    obtain ⟨b, o, rfl, hbG, hG, hcell⟩ := (hl.out.below RLnk.map HW.out).rows zQEqu_5
    obtain ⟨c, hcs, hat, hR⟩ := hcell.out k hkl
    obtain ⟨b2, o2, rfl, hbG2, hG2, hcell2⟩ := (hl2.out.below RLnk.map HW.out).rows zQEqu_5
    obtain ⟨d, hcs2, hat2, hR2⟩ := hcell2.out k hkl2
    have hcsz : c.size = kk := by rw [hcs, HKK.out]
    have hcsz2 : d.size = kk := by rw [hcs2, HKK.out]
    have bt : Big 49 c.size := by rw [hcs]; exact bLnk
    have bt2 : Big 49 d.size := by rw [hcs2]; exact bLnk
    have ld1 := fun n => At.ldN (w := wr.drewN n) (hat.at HKK.out) hcsz
    have ld2 := fun n => At.ldV (w := wr.drewN n) (hat.at HKK.out) bt
    have ld3 := fun n => At.ldA (w := wr.drewN n) (hat.at HKK.out) bt
    have ld4 := fun n => At.ldN (w := wr.drewN n) (hat2.at HKK.out) hcsz2
    have ld5 := fun n => At.ldV (w := wr.drewN n) (hat2.at HKK.out) bt2
    have ld6 := fun n => At.ldA (w := wr.drewN n) (hat2.at HKK.out) bt2
    have heq : ∀ W, (Op.equalIn 10000 49 (.agg c) (.agg d)).run Tryz.prog W = .ok (lkB l[k] l2[k]) W := fun W => by rw [hR, hR2]; exact eq_Lnk _ _ W
    obtain ⟨x, hx⟩ : ∃ x, l[k] = x := ⟨_, rfl⟩
    obtain ⟨y, hy⟩ : ∃ y, l2[k] = y := ⟨_, rfl⟩
    rw [hx] at HX heq
    rw [hy] at HX2 heq
    clear bt bt2 hx hy
    clear hcell hcs hat hR hkl hcell2 hcs2 hat2 hR2 hkl2
    cases hr : lkB x y
    · exact zQEqu_1
    · exact zQEqu_0
  · obtain rfl : m = k := by omega
    have HT := Lib.hid (show eqB lkB l l2 = true by have h1 := HA.out; rwa [List.take_of_length_le zQEqu_7, List.take_of_length_le zQEqu_6] at h1)
    exact zQEqu_2
theorem eq_Trm (x y : Trm) (w : World) : (Op.equalIn 10000 54 (.agg (cTrm x)) (.agg (cTrm y))).run Tryz.prog w = .ok (tmB x y) w := by
 unfold cTrm tmB
 go_simp
 by_cases h0 : x.co = y.co <;> by_cases h1 : x.wh.toList = y.wh.toList <;> by_cases h2 : x.nm.toList = y.nm.toList <;> simp [← tx_is, inB, *]
set_option maxRecDepth 100000 in
theorem equ_Trm {l l2 : List Trm} {p p2 : Option Addr} {m m2 c c2 : Nat} {w : World} (hl : Hid (Rw 3 RTrm (Lo w.heap.size) w l p m)) (hl2 : Hid (Rw 3 RTrm (Lo w.heap.size) w l2 p2 m2)) :
 Calls Tryz.prog 127 #[.slice p m c, .slice p2 m2 c2] w (Gives (.bool (eqB tmB l l2)) w) := by
 obtain ⟨hlm, hm⟩ := hl.out.len
 obtain ⟨hlm2, hm2⟩ := hl2.out.len
 have HL := Lib.hid hlm
 have HL2 := Lib.hid hlm2
 have t3 : (m : Int) ≤ 9223372036854775807 := by omega
 by_cases hmm : m = m2
 rotate_left 1
 · have HN := Lib.hid (eqB_len (f := tmB) (l := l) (m := l2) zQEqu_5)
   have u1 : ((m : Int) == (m2 : Int)) = false := beq_eq_false_iff_ne.2 zQEqu_5
   have u2 : ((m : Int) != (m2 : Int)) = true := bne_iff_ne.2 zQEqu_5
   have u3 : (m == m2) = false := beq_eq_false_iff_ne.2 hmm
   have u4 : (m != m2) = true := bne_iff_ne.2 hmm
   clear hlm hm hlm2 hm2 t3
   go_enter Tryz.func127, Tryz.ntmps127
   exact zQEqu_3
 subst hmm
 clear hlm hm hlm2 hm2
 obtain ⟨kk, hkk⟩ : ∃ n : Nat, 3 = n := ⟨_, rfl⟩
 have hsz : ∀ w, (sizeOf 54).run Tryz.prog w = .ok kk w := fun w => by rw [Tryz.sizeOf54, hkk]
 have HKK := Lib.hid hkk
 clear hkk
 go_enter Tryz.func127, Tryz.ntmps127
 go_wp2_with fail
 go_loopw [13] (fun i wr => ∃ k : Nat, k ≤ m ∧ i = .int .i64 (k : Nat) ∧ Hid (Below w.heap.size w wr) ∧ Hid (eqB tmB (l.take k) (l2.take k) = true)) (fun i _ => m - (intOf i).toNat)
 case atStart => exact ⟨0, Nat.zero_le _, rfl, Lib.hid (Below.refl _ _), Lib.hid rfl⟩
 case round =>
  obtain ⟨k, hk, rfl, HW, HA⟩ := hrel
  have k0 : (0 : Int) ≤ (k : Int) := by omega
  rcases Nat.lt_or_ge k m with h | h
  · have k1 : (k : Int) < (m : Int) := by omega
    have hkl : k < l.length := by rw [HL.out]; exact h
    have hkl2 : k < l2.length := by rw [HL2.out]; exact h
    have HX := Lib.hid (List.getElem?_eq_getElem hkl)
    have HX2 := Lib.hid (List.getElem?_eq_getElem hkl2)
    obtain ⟨b, o, rfl, hbG, hG, hcell⟩ := (hl.out.below RTrm.map HW.out).rows zQEqu_5
    obtain ⟨c, hcs, hat, hR⟩ := hcell.out k hkl
    obtain ⟨b2, o2, rfl, hbG2, hG2, hcell2⟩ := (hl2.out.below RTrm.map HW.out).rows zQEqu_5
    obtain ⟨d, hcs2, hat2, hR2⟩ := hcell2.out k hkl2
    have hcsz : c.size = kk := by rw [hcs, HKK.out]
    have hcsz2 : d.size = kk := by rw [hcs2, HKK.out]
    have bt : Big 54 c.size := by rw [hcs]; exact bTrm
    have bt2 : Big 54 d.size := by rw [hcs2]; exact bTrm
    have ld1 := fun n => At.ldN (w := wr.drewN n) (hat.at HKK.out) hcsz
    have ld2 := fun n => At.ldV (w := wr.drewN n) (hat.at HKK.out) bt
    have ld3 := fun n => At.ldA (w := wr.drewN n) (hat.at HKK.out) bt
    have ld4 := fun n => At.ldN (w := wr.drewN n) (hat2.at HKK.out) hcsz2
    have ld5 := fun n => At.ldV (w := wr.drewN n) (hat2.at HKK.out) bt2
    have ld6 := fun n => At.ldA (w := wr.drewN n) (hat2.at HKK.out) bt2
    have heq : ∀ W, (Op.equalIn 10000 54 (.agg c) (.agg d)).run Tryz.prog W = .ok (tmB l[k] l2[k]) W := fun W => by rw [hR, hR2]; exact eq_Trm _ _ W
    obtain ⟨x, hx⟩ : ∃ x, l[k] = x := ⟨_, rfl⟩
    obtain ⟨y, hy⟩ : ∃ y, l2[k] = y := ⟨_, rfl⟩
    rw [hx] at HX heq
    rw [hy] at HX2 heq
    clear bt bt2 hx hy
    clear hcell hcs hat hR hkl hcell2 hcs2 hat2 hR2 hkl2
    cases hr : tmB x y
    · exact zQEqu_1
    · exact zQEqu_0
  · obtain rfl : m = k := by omega
    have HT := Lib.hid (show eqB tmB l l2 = true by have h1 := HA.out; rwa [List.take_of_length_le zQEqu_7, List.take_of_length_le zQEqu_6] at h1)
    exact zQEqu_2
set_option maxRecDepth 100000 in
theorem equ_Txt {l l2 : List ByteArray} {p p2 : Option Addr} {m m2 c c2 : Nat} {w : World} (hl : Hid (Rw 1 RTxt (Lo w.heap.size) w l p m)) (hl2 : Hid (Rw 1 RTxt (Lo w.heap.size) w l2 p2 m2)) :
 Calls Tryz.prog 84 #[.slice p m c, .slice p2 m2 c2] w (Gives (.bool (eqB txB l l2)) w) := by
 obtain ⟨hlm, hm⟩ := hl.out.len
 obtain ⟨hlm2, hm2⟩ := hl2.out.len
 have HL := Lib.hid hlm
 have HL2 := Lib.hid hlm2
 have t3 : (m : Int) ≤ 9223372036854775807 := by omega
 by_cases hmm : m = m2
 rotate_left 1
 · have HN := Lib.hid (eqB_len (f := txB) (l := l) (m := l2) zQEqu_5)
   have u1 : ((m : Int) == (m2 : Int)) = false := beq_eq_false_iff_ne.2 zQEqu_5
   have u2 : ((m : Int) != (m2 : Int)) = true := bne_iff_ne.2 zQEqu_5
   have u3 : (m == m2) = false := beq_eq_false_iff_ne.2 hmm
   have u4 : (m != m2) = true := bne_iff_ne.2 hmm
   clear hlm hm hlm2 hm2 t3
   go_enter Tryz.func84, Tryz.ntmps84
   exact zQEqu_3
 subst hmm
 clear hlm hm hlm2 hm2
 go_enter Tryz.func84, Tryz.ntmps84
 go_wp2_with fail
 go_loopw [13] (fun i wr => ∃ k : Nat, k ≤ m ∧ i = .int .i64 (k : Nat) ∧ Hid (Below w.heap.size w wr) ∧ Hid (eqB txB (l.take k) (l2.take k) = true)) (fun i _ => m - (intOf i).toNat)
 case atStart => exact ⟨0, Nat.zero_le _, rfl, Lib.hid (Below.refl _ _), Lib.hid rfl⟩
 case round =>
  obtain ⟨k, hk, rfl, HW, HA⟩ := hrel
  have k0 : (0 : Int) ≤ (k : Int) := by omega
  rcases Nat.lt_or_ge k m with h | h
  · have k1 : (k : Int) < (m : Int) := by omega
    have hkl : k < l.length := by rw [HL.out]; exact h
    have hkl2 : k < l2.length := by rw [HL2.out]; exact h
    have HX := Lib.hid (List.getElem?_eq_getElem hkl)
    have HX2 := Lib.hid (List.getElem?_eq_getElem hkl2)
    obtain ⟨b, o, rfl, hbG, hG, hcell⟩ := (hl.out.below RTxt.map HW.out).rows zQEqu_5
    obtain ⟨c, hcs, hat, hR⟩ := hcell.out k hkl
    obtain ⟨b2, o2, rfl, hbG2, hG2, hcell2⟩ := (hl2.out.below RTxt.map HW.out).rows zQEqu_5
    obtain ⟨d, hcs2, hat2, hR2⟩ := hcell2.out k hkl2
    have e1 := hat.get (r := 0) (v := .string l[k]) (by rw [hR]; rfl)
    have e2 := hat2.get (r := 0) (v := .string l2[k]) (by rw [hR2]; rfl)
    rw [show o + k * 1 + 0 = o + k by omega] at e1
    rw [show o2 + k * 1 + 0 = o2 + k by omega] at e2
    obtain ⟨x, hx⟩ : ∃ x, l[k] = x := ⟨_, rfl⟩
    obtain ⟨y, hy⟩ : ∃ y, l2[k] = y := ⟨_, rfl⟩
    rw [hx] at HX e1
    rw [hy] at HX2 e2
    clear hx hy
    clear hcell hcs hat hR hkl hcell2 hcs2 hat2 hR2 hkl2
    cases hr : txB x y
    · have H := Lib.hid (eqB_stop HX.out HX2.out hr)
      have q1 : (x.toList == y.toList) = false := by rw [tx_is]; exact hr
      clear hr
      go_wp2_with fail
      go_quiet (fail)
      go_wp2_with fail
      go_ret
      exact ⟨ret_bool H.out.symm, by have HBB := HW.out; exact bl⟩
    · have H := Lib.hid (eqB_take HX.out HX2.out HA.out hr)
      have q1 : (x.toList == y.toList) = true := by rw [tx_is]; exact hr
      exact zQEqu_4
  · obtain rfl : m = k := by omega
    have HT := Lib.hid (show eqB txB l l2 = true by have h1 := HA.out; rwa [List.take_of_length_le zQEqu_7, List.take_of_length_le zQEqu_6] at h1)
    exact zQEqu_2
end Go.Proofs.YtaaffmbnhjaebaaGreat.Md
