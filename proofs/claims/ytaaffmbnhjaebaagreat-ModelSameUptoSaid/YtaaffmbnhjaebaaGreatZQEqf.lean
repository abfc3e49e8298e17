/-
  Parts of this proof: The contracts of slices.EqualFunc at its types.
-/
import Derived.Test.YtaaffmbnhjaebaaGreatZQBase
namespace Go.Proofs.YtaaffmbnhjaebaaGreat.Md
open Go.RowKit
open Go.Proofs.YtaaffmbnhjaebaaGreat.Ex (Lo Gives ret_bool)
set_option maxHeartbeats 2000000
set_option linter.unusedVariables false
theorem zQEqf_0 {p : Prop} (h : p := by
 have H := Lib.hid (eqB_take HX.out HX2.out HA.out hr)
 clear hr
 go_wp2_with fail
 go_roundw
 case rel => exact ⟨k + 1, by omega, by go_num, HW2, H⟩
 case measure => simp [intOf]; omega
 ) : p := h
theorem zQEqf_1 {p : Prop} (h : p := by
 have H := Lib.hid (eqB_stop HX.out HX2.out hr)
 clear hr
 go_wp2_with fail
 go_ret
 exact ⟨ret_bool H.out.symm, HW2.out⟩
 ) : p := h
theorem zQEqf_2 {p : Prop} (h : p := by
 go_wp2_with fail
 go_ret
 exact ⟨ret_bool HT.out.symm, HW.out⟩
 ) : p := h
theorem zQEqf_3 {p : Prop} (h : p := by
 go_wp2_with fail
 go_ret
 exact ⟨by rw [HN.out]; rfl, bl⟩
 ) : p := h
theorem zQEqf_4 {p : Prop} (h : p := by have HBB := HW.out; exact bl) : p := h
theorem zQEqf_5 {p : Prop} (h : p := by rw [hz, HC2.out]) : p := h
theorem zQEqf_6 {p : Prop} (h : p := by rw [hz, HC.out]) : p := h
theorem zQEqf_7 {p : Prop} (h : p := by rw [HL2.out]; exact Nat.le_refl _) : p := h
theorem zQEqf_8 {p : Prop} (h : p := by rw [HL.out]; exact Nat.le_refl _) : p := h
set_option maxRecDepth 100000 in
theorem equal_Ste {l l2 : List Ste} {p p2 : Option Addr} {m m2 c c2 : Nat} {w : World} (hl : Hid (Rw 13 RSte (Lo w.heap.size) w l p m)) (hl2 : Hid (Rw 13 RSte (Lo w.heap.size) w l2 p2 m2))
 (hc : Hid (∀ x y c d W, x ∈ l → y ∈ l2 → RSte (Lo W.heap.size) W x c → RSte (Lo W.heap.size) W y d → Below w.heap.size w W → Calls Tryz.prog 47 #[.agg c, .agg d] W (Gives (.bool (siB x y)) W))) :
 Calls Tryz.prog 46 #[.slice p m c, .slice p2 m2 c2, .func (.func 47) #[] #[]] w (Gives (.bool (eqB siB l l2)) w) := by
 obtain ⟨hlm, hm⟩ := hl.out.len
 obtain ⟨hlm2, hm2⟩ := hl2.out.len
 have HL := Lib.hid hlm
 have HL2 := Lib.hid hlm2
 have t3 : (m : Int) ≤ 9223372036854775807 := by omega
 by_cases hmm : m = m2
 rotate_left 1
 · have HN := Lib.hid (eqB_len (f := siB) (l := l) (m := l2) (by omega))
   have u1 : ((m : Int) == (m2 : Int)) = false := beq_eq_false_iff_ne.2 (by omega)
   have u2 : ((m : Int) != (m2 : Int)) = true := bne_iff_ne.2 (by omega)
   have u3 : (m == m2) = false := beq_eq_false_iff_ne.2 hmm
   have u4 : (m != m2) = true := bne_iff_ne.2 hmm
   clear hlm hm hlm2 hm2 t3
   go_enter Tryz.func46, Tryz.ntmps46
   exact zQEqf_3
 subst hmm
 clear hlm hm hlm2 hm2
 obtain ⟨kk, hkk⟩ : ∃ n : Nat, 13 = n := ⟨_, rfl⟩
 have hsz : ∀ w, (sizeOf 42).run Tryz.prog w = .ok kk w := fun w => by rw [Tryz.sizeOf42, hkk]
 have HKK := Lib.hid hkk
 clear hkk
 go_enter Tryz.func46, Tryz.ntmps46
 go_wp2_with fail
 go_loopw [17] (fun i wr => ∃ k : Nat, k ≤ m ∧ i = .int .i64 (k : Nat) ∧ Hid (Below w.heap.size w wr) ∧ Hid (eqB siB (l.take k) (l2.take k) = true)) (fun i _ => m - (intOf i).toNat)
 case atStart => exact ⟨0, Nat.zero_le _, rfl, Lib.hid (Below.refl _ _), Lib.hid rfl⟩
 case round =>
  obtain ⟨k, hk, rfl, HW, HA⟩ := hrel
  have k0 : (0 : Int) ≤ (k : Int) := by omega
  rcases Nat.lt_or_ge k m with h | h
  · have k1 : (k : Int) < (m : Int) := by omega
    have hkl : k < l.length := by rw [HL.out]; exact h
    have hkl2 : k < l2.length := by rw [HL2.out]; exact h
    have HX := Lib.hid (List.getElem?_eq_getElem hkl)
    have HX2 := Lib.hid (List.getElem?_eq_getElem hkl2)
    have HM := Lib.hid (List.getElem_mem hkl)
    have HM2 := Lib.hid (List.getElem_mem hkl2)
    obtain ⟨b, o, rfl, hbG, hG, hcell⟩ := (hl.out.below RSte.map HW.out).rows (by omega)
    obtain ⟨c, hcs, hat, hR⟩ := hcell.out k hkl
    obtain ⟨b2, o2, rfl, hbG2, hG2, hcell2⟩ := (hl2.out.below RSte.map HW.out).rows (by omega)
    obtain ⟨d, hcs2, hat2, hR2⟩ := hcell2.out k hkl2
    have HC := Lib.hid hcs
    have HC2 := Lib.hid hcs2
    have HR := Lib.hid (RSte.map.all hR)
    have HR2 := Lib.hid (RSte.map.all hR2)
    have hcsz : c.size = kk := by rw [HC.out, HKK.out]
    have hcsz2 : d.size = kk := by rw [HC2.out, HKK.out]
    have HA1 := Lib.hid (hat.at HKK.out)
    have HA2 := Lib.hid (hat2.at HKK.out)
    have bt : Big 42 c.size := by rw [HC.out]; exact bSte
    have bt2 : Big 42 d.size := by rw [HC2.out]; exact bSte
    have ld1 := HA1.out.ldN hcsz
    have ld2 := HA1.out.ldV bt
    have ld3 := HA1.out.ldA bt
    have f1 := fun (u : Obj) => (HA2.out.on (w2 := wr.alloc u) bl hG2).ldN hcsz2
    have f2 := fun (u : Obj) => (HA2.out.on (w2 := wr.alloc u) bl hG2).ldV bt2
    have f3 := fun (u : Obj) => (HA2.out.on (w2 := wr.alloc u) bl hG2).ldA bt2
    have st1 := fun (z : Array Value) (hz : z.size = 13) => put_C bt (RSte.is hR).2 z zQEqf_6
    have st2 := fun (z : Array Value) (hz : z.size = 13) => put_V bt (RSte.is hR).2 z zQEqf_6
    have st3 := fun (z : Array Value) (hz : z.size = 13) => put_A bt (RSte.is hR).2 z zQEqf_6
    have s1 := fun (z : Array Value) (hz : z.size = 13) => put_C bt2 (RSte.is hR2).2 z zQEqf_5
    have s2 := fun (z : Array Value) (hz : z.size = 13) => put_V bt2 (RSte.is hR2).2 z zQEqf_5
    have s3 := fun (z : Array Value) (hz : z.size = 13) => put_A bt2 (RSte.is hR2).2 z zQEqf_5
    have g1 := fun W => ((far2 (w := W) 42 42 c d).out _ (Below.refl _ _)).1.cell.ldN hcsz
    have g2 := fun W => ((far2 (w := W) 42 42 c d).out _ (Below.refl _ _)).2.cell.ldN hcsz2
    obtain ⟨x, hx⟩ : ∃ x, l[k] = x := ⟨_, rfl⟩
    obtain ⟨y, hy⟩ : ∃ y, l2[k] = y := ⟨_, rfl⟩
    rw [hx] at HX HR HM
    rw [hy] at HX2 HR2 HM2
    clear hcell hcs hat bt hR hx hkl hcell2 hcs2 hat2 bt2 hR2 hy hkl2
    go_wp2_with fail
    refine (hc.out x y c d _ HM.out HM2.out (RSte.map.on bl HR.out) (RSte.map.on bl HR2.out) zQEqf_4).mono ?_
    rintro e w2 ⟨rfl, hb2⟩
    have HW2 : Hid (Below w.heap.size w w2) := Lib.hid zQEqf_4
    clear ld1 ld2 ld3 f1 f2 f3 st1 st2 st3 s1 s2 s3 g1 g2 hb2
    cases hr : siB x y
    · exact zQEqf_1
    · exact zQEqf_0
  · obtain rfl : m = k := by omega
    have HT := Lib.hid (show eqB siB l l2 = true by have h1 := HA.out; rwa [List.take_of_length_le zQEqf_8, List.take_of_length_le zQEqf_7] at h1)
    exact zQEqf_2
set_option maxRecDepth 100000 in
theorem equal_Res {l l2 : List Res} {p p2 : Option Addr} {m m2 c c2 : Nat} {w : World} (hl : Hid (Rw 17 RRes (Lo w.heap.size) w l p m)) (hl2 : Hid (Rw 17 RRes (Lo w.heap.size) w l2 p2 m2))
 (hc : Hid (∀ x y c d W, x ∈ l → y ∈ l2 → RRes (Lo W.heap.size) W x c → RRes (Lo W.heap.size) W y d → Below w.heap.size w W → Calls Tryz.prog 81 #[.agg c, .agg d] W (Gives (.bool (reB x y)) W))) :
 Calls Tryz.prog 80 #[.slice p m c, .slice p2 m2 c2, .func (.func 81) #[] #[]] w (Gives (.bool (eqB reB l l2)) w) := by
 obtain ⟨hlm, hm⟩ := hl.out.len
 obtain ⟨hlm2, hm2⟩ := hl2.out.len
 have HL := Lib.hid hlm
 have HL2 := Lib.hid hlm2
 have t3 : (m : Int) ≤ 9223372036854775807 := by omega
 by_cases hmm : m = m2
 rotate_left 1
 · have HN := Lib.hid (eqB_len (f := reB) (l := l) (m := l2) (by omega))
   have u1 : ((m : Int) == (m2 : Int)) = false := beq_eq_false_iff_ne.2 (by omega)
   have u2 : ((m : Int) != (m2 : Int)) = true := bne_iff_ne.2 (by omega)
   have u3 : (m == m2) = false := beq_eq_false_iff_ne.2 hmm
   have u4 : (m != m2) = true := bne_iff_ne.2 hmm
   clear hlm hm hlm2 hm2 t3
   go_enter Tryz.func80, Tryz.ntmps80
   exact zQEqf_3
 subst hmm
 clear hlm hm hlm2 hm2
 obtain ⟨kk, hkk⟩ : ∃ n : Nat, 17 = n := ⟨_, rfl⟩
 have hsz : ∀ w, (sizeOf 92).run Tryz.prog w = .ok kk w := fun w => by rw [Tryz.sizeOf92, hkk]
 have HKK := Lib.hid hkk
 clear hkk
 go_enter Tryz.func80, Tryz.ntmps80
 go_wp2_with fail
 go_loopw [17] (fun i wr => ∃ k : Nat, k ≤ m ∧ i = .int .i64 (k : Nat) ∧ Hid (Below w.heap.size w wr) ∧ Hid (eqB reB (l.take k) (l2.take k) = true)) (fun i _ => m - (intOf i).toNat)
 case atStart => exact ⟨0, Nat.zero_le _, rfl, Lib.hid (Below.refl _ _), Lib.hid rfl⟩
 case round =>
  obtain ⟨k, hk, rfl, HW, HA⟩ := hrel
  have k0 : (0 : Int) ≤ (k : Int) := by omega
  rcases Nat.lt_or_ge k m with h | h
  · have k1 : (k : Int) < (m : Int) := by omega
    have hkl : k < l.length := by rw [HL.out]; exact h
    have hkl2 : k < l2.length := by rw [HL2.out]; exact h
    have HX := Lib.hid (List.getElem?_eq_getElem hkl)
    have HX2 := Lib.hid (List.getElem?_eq_getElem hkl2)
    have HM := Lib.hid (List.getElem_mem hkl)
    have HM2 := Lib.hid (List.getElem_mem hkl2)
    obtain ⟨b, o, rfl, hbG, hG, hcell⟩ := (hl.out.below RRes.map HW.out).rows (by omega)
    obtain ⟨c, hcs, hat, hR⟩ := hcell.out k hkl
    obtain ⟨b2, o2, rfl, hbG2, hG2, hcell2⟩ := (hl2.out.below RRes.map HW.out).rows (by omega)
    obtain ⟨d, hcs2, hat2, hR2⟩ := hcell2.out k hkl2
    have HC := Lib.hid hcs
    have HC2 := Lib.hid hcs2
    have HR := Lib.hid (RRes.map.all hR)
    have HR2 := Lib.hid (RRes.map.all hR2)
    have hcsz : c.size = kk := by rw [HC.out, HKK.out]
    have hcsz2 : d.size = kk := by rw [HC2.out, HKK.out]
    have HA1 := Lib.hid (hat.at HKK.out)
    have HA2 := Lib.hid (hat2.at HKK.out)
    have bt : Big 92 c.size := by rw [HC.out]; exact bRes
    have bt2 : Big 92 d.size := by rw [HC2.out]; exact bRes
    have ld1 := HA1.out.ldN hcsz
    have ld2 := HA1.out.ldV bt
    have ld3 := HA1.out.ldA bt
    have f1 := fun (u : Obj) => (HA2.out.on (w2 := wr.alloc u) bl hG2).ldN hcsz2
    have f2 := fun (u : Obj) => (HA2.out.on (w2 := wr.alloc u) bl hG2).ldV bt2
    have f3 := fun (u : Obj) => (HA2.out.on (w2 := wr.alloc u) bl hG2).ldA bt2
    have st1 := fun (z : Array Value) (hz : z.size = 17) => put_C bt (RRes.is hR).2 z zQEqf_6
    have st2 := fun (z : Array Value) (hz : z.size = 17) => put_V bt (RRes.is hR).2 z zQEqf_6
    have st3 := fun (z : Array Value) (hz : z.size = 17) => put_A bt (RRes.is hR).2 z zQEqf_6
    have s1 := fun (z : Array Value) (hz : z.size = 17) => put_C bt2 (RRes.is hR2).2 z zQEqf_5
    have s2 := fun (z : Array Value) (hz : z.size = 17) => put_V bt2 (RRes.is hR2).2 z zQEqf_5
    have s3 := fun (z : Array Value) (hz : z.size = 17) => put_A bt2 (RRes.is hR2).2 z zQEqf_5
    have g1 := fun W => ((far2 (w := W) 92 92 c d).out _ (Below.refl _ _)).1.cell.ldN hcsz
    have g2 := fun W => ((far2 (w := W) 92 92 c d).out _ (Below.refl _ _)).2.cell.ldN hcsz2
    obtain ⟨x, hx⟩ : ∃ x, l[k] = x := ⟨_, rfl⟩
    obtain ⟨y, hy⟩ : ∃ y, l2[k] = y := ⟨_, rfl⟩
    rw [hx] at HX HR HM
    rw [hy] at HX2 HR2 HM2
    clear hcell hcs hat bt hR hx hkl hcell2 hcs2 hat2 bt2 hR2 hy hkl2
    go_wp2_with fail
    refine (hc.out x y c d _ HM.out HM2.out (RRes.map.on bl HR.out) (RRes.map.on bl HR2.out) zQEqf_4).mono ?_
    rintro e w2 ⟨rfl, hb2⟩
    have HW2 : Hid (Below w.heap.size w w2) := Lib.hid zQEqf_4
    clear ld1 ld2 ld3 f1 f2 f3 st1 st2 st3 s1 s2 s3 g1 g2 hb2
    cases hr : reB x y
    · exact zQEqf_1
    · exact zQEqf_0
  · obtain rfl : m = k := by omega
    have HT := Lib.hid (show eqB reB l l2 = true by have h1 := HA.out; rwa [List.take_of_length_le zQEqf_8, List.take_of_length_le zQEqf_7] at h1)
    exact zQEqf_2
set_option maxRecDepth 100000 in
theorem equal_Rou {l l2 : List Rou} {p p2 : Option Addr} {m m2 c c2 : Nat} {w : World} (hl : Hid (Rw 4 RRou (Lo w.heap.size) w l p m)) (hl2 : Hid (Rw 4 RRou (Lo w.heap.size) w l2 p2 m2))
 (hc : Hid (∀ x y c d W, x ∈ l → y ∈ l2 → RRou (Lo W.heap.size) W x c → RRou (Lo W.heap.size) W y d → Below w.heap.size w W → Calls Tryz.prog 86 #[.agg c, .agg d] W (Gives (.bool (roB x y)) W))) :
 Calls Tryz.prog 85 #[.slice p m c, .slice p2 m2 c2, .func (.func 86) #[] #[]] w (Gives (.bool (eqB roB l l2)) w) := by
 obtain ⟨hlm, hm⟩ := hl.out.len
 obtain ⟨hlm2, hm2⟩ := hl2.out.len
 have HL := Lib.hid hlm
 have HL2 := Lib.hid hlm2
 have t3 : (m : Int) ≤ 9223372036854775807 := by omega
 by_cases hmm : m = m2
 rotate_left 1
 · have HN := Lib.hid (eqB_len (f := roB) (l := l) (m := l2) (by omega))
   have u1 : ((m : Int) == (m2 : Int)) = false := beq_eq_false_iff_ne.2 (by omega)
   have u2 : ((m : Int) != (m2 : Int)) = true := bne_iff_ne.2 (by omega)
   have u3 : (m == m2) = false := beq_eq_false_iff_ne.2 hmm
   have u4 : (m != m2) = true := bne_iff_ne.2 hmm
   clear hlm hm hlm2 hm2 t3
   go_enter Tryz.func85, Tryz.ntmps85
   exact zQEqf_3
 subst hmm
 clear hlm hm hlm2 hm2
 obtain ⟨kk, hkk⟩ : ∃ n : Nat, 4 = n := ⟨_, rfl⟩
 have hsz : ∀ w, (sizeOf 79).run Tryz.prog w = .ok kk w := fun w => by rw [Tryz.sizeOf79, hkk]
 have HKK := Lib.hid hkk
 clear hkk
 go_enter Tryz.func85, Tryz.ntmps85
 go_wp2_with fail
 go_loopw [17] (fun i wr => ∃ k : Nat, k ≤ m ∧ i = .int .i64 (k : Nat) ∧ Hid (Below w.heap.size w wr) ∧ Hid (eqB roB (l.take k) (l2.take k) = true)) (fun i _ => m - (intOf i).toNat)
 case atStart => exact ⟨0, Nat.zero_le _, rfl, Lib.hid (Below.refl _ _), Lib.hid rfl⟩
 case round =>
  obtain ⟨k, hk, rfl, HW, HA⟩ := hrel
  have k0 : (0 : Int) ≤ (k : Int) := by omega
  rcases Nat.lt_or_ge k m with h | h
  · have k1 : (k : Int) < (m : Int) := by omega
    have hkl : k < l.length := by rw [HL.out]; exact h
    have hkl2 : k < l2.length := by rw [HL2.out]; exact h
    have HX := Lib.hid (List.getElem?_eq_getElem hkl)
    have HX2 := Lib.hid (List.getElem?_eq_getElem hkl2)
    have HM := Lib.hid (List.getElem_mem hkl)
    have HM2 := Lib.hid (List.getElem_mem hkl2)
    obtain ⟨b, o, rfl, hbG, hG, hcell⟩ := (hl.out.below RRou.map HW.out).rows (by omega)
    obtain ⟨c, hcs, hat, hR⟩ := hcell.out k hkl
    obtain ⟨b2, o2, rfl, hbG2, hG2, hcell2⟩ := (hl2.out.below RRou.map HW.out).rows (by omega)
    obtain ⟨d, hcs2, hat2, hR2⟩ := hcell2.out k hkl2
    have HC := Lib.hid hcs
    have HC2 := Lib.hid hcs2
    have HR := Lib.hid (RRou.map.all hR)
    have HR2 := Lib.hid (RRou.map.all hR2)
    have hcsz : c.size = kk := by rw [HC.out, HKK.out]
    have hcsz2 : d.size = kk := by rw [HC2.out, HKK.out]
    have HA1 := Lib.hid (hat.at HKK.out)
    have HA2 := Lib.hid (hat2.at HKK.out)
    have bt : Big 79 c.size := by rw [HC.out]; exact bRou
    have bt2 : Big 79 d.size := by rw [HC2.out]; exact bRou
    have ld1 := HA1.out.ldN hcsz
    have ld2 := HA1.out.ldV bt
    have ld3 := HA1.out.ldA bt
    have f1 := fun (u : Obj) => (HA2.out.on (w2 := wr.alloc u) bl hG2).ldN hcsz2
    have f2 := fun (u : Obj) => (HA2.out.on (w2 := wr.alloc u) bl hG2).ldV bt2
    have f3 := fun (u : Obj) => (HA2.out.on (w2 := wr.alloc u) bl hG2).ldA bt2
    have st1 := fun (z : Array Value) (hz : z.size = 4) => put_C bt (RRou.is hR).2 z zQEqf_6
    have st2 := fun (z : Array Value) (hz : z.size = 4) => put_V bt (RRou.is hR).2 z zQEqf_6
    have st3 := fun (z : Array Value) (hz : z.size = 4) => put_A bt (RRou.is hR).2 z zQEqf_6
    have s1 := fun (z : Array Value) (hz : z.size = 4) => put_C bt2 (RRou.is hR2).2 z zQEqf_5
    have s2 := fun (z : Array Value) (hz : z.size = 4) => put_V bt2 (RRou.is hR2).2 z zQEqf_5
    have s3 := fun (z : Array Value) (hz : z.size = 4) => put_A bt2 (RRou.is hR2).2 z zQEqf_5
    have g1 := fun W => ((far2 (w := W) 79 79 c d).out _ (Below.refl _ _)).1.cell.ldN hcsz
    have g2 := fun W => ((far2 (w := W) 79 79 c d).out _ (Below.refl _ _)).2.cell.ldN hcsz2
    obtain ⟨x, hx⟩ : ∃ x, l[k] = x := ⟨_, rfl⟩
    obtain ⟨y, hy⟩ : ∃ y, l2[k] = y := ⟨_, rfl⟩
    rw [hx] at HX HR HM
    rw [hy] at HX2 HR2 HM2
    clear hcell hcs hat bt hR hx hkl hcell2 hcs2 hat2 bt2 hR2 hy hkl2
    go_wp2_with fail
    refine (hc.out x y c d _ HM.out HM2.out (RRou.map.on bl HR.out) (RRou.map.on bl HR2.out) zQEqf_4).mono ?_
    rintro e w2 ⟨rfl, hb2⟩
    have HW2 : Hid (Below w.heap.size w w2) := Lib.hid zQEqf_4
    clear ld1 ld2 ld3 f1 f2 f3 st1 st2 st3 s1 s2 s3 g1 g2 hb2
    cases hr : roB x y
    · exact zQEqf_1
    · exact zQEqf_0
  · obtain rfl : m = k := by omega
    have HT := Lib.hid (show eqB roB l l2 = true by have h1 := HA.out; rwa [List.take_of_length_le zQEqf_8, List.take_of_length_le zQEqf_7] at h1)
    exact zQEqf_2
set_option maxRecDepth 100000 in
theorem equal_Sta {l l2 : List Sta} {p p2 : Option Addr} {m m2 c c2 : Nat} {w : World} (hl : Hid (Rw 5 RSta (Lo w.heap.size) w l p m)) (hl2 : Hid (Rw 5 RSta (Lo w.heap.size) w l2 p2 m2))
 (hc : Hid (∀ x y c d W, x ∈ l → y ∈ l2 → RSta (Lo W.heap.size) W x c → RSta (Lo W.heap.size) W y d → Below w.heap.size w W → Calls Tryz.prog 88 #[.agg c, .agg d] W (Gives (.bool (saB x y)) W))) :
 Calls Tryz.prog 87 #[.slice p m c, .slice p2 m2 c2, .func (.func 88) #[] #[]] w (Gives (.bool (eqB saB l l2)) w) := by
 obtain ⟨hlm, hm⟩ := hl.out.len
 obtain ⟨hlm2, hm2⟩ := hl2.out.len
 have HL := Lib.hid hlm
 have HL2 := Lib.hid hlm2
 have t3 : (m : Int) ≤ 9223372036854775807 := by omega
 by_cases hmm : m = m2
 rotate_left 1
 · have HN := Lib.hid (eqB_len (f := saB) (l := l) (m := l2) (by omega))
   have u1 : ((m : Int) == (m2 : Int)) = false := beq_eq_false_iff_ne.2 (by omega)
   have u2 : ((m : Int) != (m2 : Int)) = true := bne_iff_ne.2 (by omega)
   have u3 : (m == m2) = false := beq_eq_false_iff_ne.2 hmm
   have u4 : (m != m2) = true := bne_iff_ne.2 hmm
   clear hlm hm hlm2 hm2 t3
   go_enter Tryz.func87, Tryz.ntmps87
   exact zQEqf_3
 subst hmm
 clear hlm hm hlm2 hm2
 obtain ⟨kk, hkk⟩ : ∃ n : Nat, 5 = n := ⟨_, rfl⟩
 have hsz : ∀ w, (sizeOf 105).run Tryz.prog w = .ok kk w := fun w => by rw [Tryz.sizeOf105, hkk]
 have HKK := Lib.hid hkk
 clear hkk
 go_enter Tryz.func87, Tryz.ntmps87
 go_wp2_with fail
 go_loopw [17] (fun i wr => ∃ k : Nat, k ≤ m ∧ i = .int .i64 (k : Nat) ∧ Hid (Below w.heap.size w wr) ∧ Hid (eqB saB (l.take k) (l2.take k) = true)) (fun i _ => m - (intOf i).toNat)
 case atStart => exact ⟨0, Nat.zero_le _, rfl, Lib.hid (Below.refl _ _), Lib.hid rfl⟩
 case round =>
  obtain ⟨k, hk, rfl, HW, HA⟩ := hrel
  have k0 : (0 : Int) ≤ (k : Int) := by omega
  rcases Nat.lt_or_ge k m with h | h
  · have k1 : (k : Int) < (m : Int) := by omega
    have hkl : k < l.length := by rw [HL.out]; exact h
    have hkl2 : k < l2.length := by rw [HL2.out]; exact h
    have HX := Lib.hid (List.getElem?_eq_getElem hkl)
    have HX2 := Lib.hid (List.getElem?_eq_getElem hkl2)
    have HM := Lib.hid (List.getElem_mem hkl)
    have HM2 := Lib.hid (List.getElem_mem hkl2)
    obtain ⟨b, o, rfl, hbG, hG, hcell⟩ := (hl.out.below RSta.map HW.out).rows (by omega)
    obtain ⟨c, hcs, hat, hR⟩ := hcell.out k hkl
    obtain ⟨b2, o2, rfl, hbG2, hG2, hcell2⟩ := (hl2.out.below RSta.map HW.out).rows (by omega)
    obtain ⟨d, hcs2, hat2, hR2⟩ := hcell2.out k hkl2
    have HC := Lib.hid hcs
    have HC2 := Lib.hid hcs2
    have HR := Lib.hid (RSta.map.all hR)
    have HR2 := Lib.hid (RSta.map.all hR2)
    have hcsz : c.size = kk := by rw [HC.out, HKK.out]
    have hcsz2 : d.size = kk := by rw [HC2.out, HKK.out]
    have HA1 := Lib.hid (hat.at HKK.out)
    have HA2 := Lib.hid (hat2.at HKK.out)
    have bt : Big 105 c.size := by rw [HC.out]; exact bSta
    have bt2 : Big 105 d.size := by rw [HC2.out]; exact bSta
    have ld1 := HA1.out.ldN hcsz
    have ld2 := HA1.out.ldV bt
    have ld3 := HA1.out.ldA bt
    have f1 := fun (u : Obj) => (HA2.out.on (w2 := wr.alloc u) bl hG2).ldN hcsz2
    have f2 := fun (u : Obj) => (HA2.out.on (w2 := wr.alloc u) bl hG2).ldV bt2
    have f3 := fun (u : Obj) => (HA2.out.on (w2 := wr.alloc u) bl hG2).ldA bt2
    have st1 := fun (z : Array Value) (hz : z.size = 5) => put_C bt (RSta.is hR).2 z zQEqf_6
    have st2 := fun (z : Array Value) (hz : z.size = 5) => put_V bt (RSta.is hR).2 z zQEqf_6
    have st3 := fun (z : Array Value) (hz : z.size = 5) => put_A bt (RSta.is hR).2 z zQEqf_6
    have s1 := fun (z : Array Value) (hz : z.size = 5) => put_C bt2 (RSta.is hR2).2 z zQEqf_5
    have s2 := fun (z : Array Value) (hz : z.size = 5) => put_V bt2 (RSta.is hR2).2 z zQEqf_5
    have s3 := fun (z : Array Value) (hz : z.size = 5) => put_A bt2 (RSta.is hR2).2 z zQEqf_5
    have g1 := fun W => ((far2 (w := W) 105 105 c d).out _ (Below.refl _ _)).1.cell.ldN hcsz
    have g2 := fun W => ((far2 (w := W) 105 105 c d).out _ (Below.refl _ _)).2.cell.ldN hcsz2
    obtain ⟨x, hx⟩ : ∃ x, l[k] = x := ⟨_, rfl⟩
    obtain ⟨y, hy⟩ : ∃ y, l2[k] = y := ⟨_, rfl⟩
    rw [hx] at HX HR HM
    rw [hy] at HX2 HR2 HM2
    clear hcell hcs hat bt hR hx hkl hcell2 hcs2 hat2 bt2 hR2 hy hkl2
    go_wp2_with fail
    refine (hc.out x y c d _ HM.out HM2.out (RSta.map.on bl HR.out) (RSta.map.on bl HR2.out) zQEqf_4).mono ?_
    rintro e w2 ⟨rfl, hb2⟩
    have HW2 : Hid (Below w.heap.size w w2) := Lib.hid zQEqf_4
    clear ld1 ld2 ld3 f1 f2 f3 st1 st2 st3 s1 s2 s3 g1 g2 hb2
    cases hr : saB x y
    · exact zQEqf_1
    · exact zQEqf_0
  · obtain rfl : m = k := by omega
    have HT := Lib.hid (show eqB saB l l2 = true by have h1 := HA.out; rwa [List.take_of_length_le zQEqf_8, List.take_of_length_le zQEqf_7] at h1)
    exact zQEqf_2
set_option maxRecDepth 100000 in
theorem equal_Lw {l l2 : List Lw} {p p2 : Option Addr} {m m2 c c2 : Nat} {w : World} (hl : Hid (Rw 3 RLw (Lo w.heap.size) w l p m)) (hl2 : Hid (Rw 3 RLw (Lo w.heap.size) w l2 p2 m2))
 (hc : Hid (∀ x y c d W, x ∈ l → y ∈ l2 → RLw (Lo W.heap.size) W x c → RLw (Lo W.heap.size) W y d → Below w.heap.size w W → Calls Tryz.prog 90 #[.agg c, .agg d] W (Gives (.bool (lwB x y)) W))) :
 Calls Tryz.prog 89 #[.slice p m c, .slice p2 m2 c2, .func (.func 90) #[] #[]] w (Gives (.bool (eqB lwB l l2)) w) := by
 obtain ⟨hlm, hm⟩ := hl.out.len
 obtain ⟨hlm2, hm2⟩ := hl2.out.len
 have HL := Lib.hid hlm
 have HL2 := Lib.hid hlm2
 have t3 : (m : Int) ≤ 9223372036854775807 := by omega
 by_cases hmm : m = m2
 rotate_left 1
 · have HN := Lib.hid (eqB_len (f := lwB) (l := l) (m := l2) (by omega))
   have u1 : ((m : Int) == (m2 : Int)) = false := beq_eq_false_iff_ne.2 (by omega)
   have u2 : ((m : Int) != (m2 : Int)) = true := bne_iff_ne.2 (by omega)
   have u3 : (m == m2) = false := beq_eq_false_iff_ne.2 hmm
   have u4 : (m != m2) = true := bne_iff_ne.2 hmm
   clear hlm hm hlm2 hm2 t3
   go_enter Tryz.func89, Tryz.ntmps89
   exact zQEqf_3
 subst hmm
 clear hlm hm hlm2 hm2
 obtain ⟨kk, hkk⟩ : ∃ n : Nat, 3 = n := ⟨_, rfl⟩
 have hsz : ∀ w, (sizeOf 57).run Tryz.prog w = .ok kk w := fun w => by rw [Tryz.sizeOf57, hkk]
 have HKK := Lib.hid hkk
 clear hkk
 go_enter Tryz.func89, Tryz.ntmps89
 go_wp2_with fail
 go_loopw [17] (fun i wr => ∃ k : Nat, k ≤ m ∧ i = .int .i64 (k : Nat) ∧ Hid (Below w.heap.size w wr) ∧ Hid (eqB lwB (l.take k) (l2.take k) = true)) (fun i _ => m - (intOf i).toNat)
 case atStart => exact ⟨0, Nat.zero_le _, rfl, Lib.hid (Below.refl _ _), Lib.hid rfl⟩
 case round =>
  obtain ⟨k, hk, rfl, HW, HA⟩ := hrel
  have k0 : (0 : Int) ≤ (k : Int) := by omega
  rcases Nat.lt_or_ge k m with h | h
  · have k1 : (k : Int) < (m : Int) := by omega
    have hkl : k < l.length := by rw [HL.out]; exact h
    have hkl2 : k < l2.length := by rw [HL2.out]; exact h
    have HX := Lib.hid (List.getElem?_eq_getElem hkl)
    have HX2 := Lib.hid (List.getElem?_eq_getElem hkl2)
    have HM := Lib.hid (List.getElem_mem hkl)
    have HM2 := Lib.hid (List.getElem_mem hkl2)
    obtain ⟨b, o, rfl, hbG, hG, hcell⟩ := (hl.out.below RLw.map HW.out).rows (by omega)
    obtain ⟨c, hcs, hat, hR⟩ := hcell.out k hkl
    obtain ⟨b2, o2, rfl, hbG2, hG2, hcell2⟩ := (hl2.out.below RLw.map HW.out).rows (by omega)
    obtain ⟨d, hcs2, hat2, hR2⟩ := hcell2.out k hkl2
    have HC := Lib.hid hcs
    have HC2 := Lib.hid hcs2
    have HR := Lib.hid (RLw.map.all hR)
    have HR2 := Lib.hid (RLw.map.all hR2)
    have hcsz : c.size = kk := by rw [HC.out, HKK.out]
    have hcsz2 : d.size = kk := by rw [HC2.out, HKK.out]
    have HA1 := Lib.hid (hat.at HKK.out)
    have HA2 := Lib.hid (hat2.at HKK.out)
    have bt : Big 57 c.size := by rw [HC.out]; exact bLw
    have bt2 : Big 57 d.size := by rw [HC2.out]; exact bLw
    have ld1 := HA1.out.ldN hcsz
    have ld2 := HA1.out.ldV bt
    have ld3 := HA1.out.ldA bt
    have f1 := fun (u : Obj) => (HA2.out.on (w2 := wr.alloc u) bl hG2).ldN hcsz2
    have f2 := fun (u : Obj) => (HA2.out.on (w2 := wr.alloc u) bl hG2).ldV bt2
    have f3 := fun (u : Obj) => (HA2.out.on (w2 := wr.alloc u) bl hG2).ldA bt2
    have st1 := fun (z : Array Value) (hz : z.size = 3) => put_C bt (RLw.is hR).2 z zQEqf_6
    have st2 := fun (z : Array Value) (hz : z.size = 3) => put_V bt (RLw.is hR).2 z zQEqf_6
    have st3 := fun (z : Array Value) (hz : z.size = 3) => put_A bt (RLw.is hR).2 z zQEqf_6
    have s1 := fun (z : Array Value) (hz : z.size = 3) => put_C bt2 (RLw.is hR2).2 z zQEqf_5
    have s2 := fun (z : Array Value) (hz : z.size = 3) => put_V bt2 (RLw.is hR2).2 z zQEqf_5
    have s3 := fun (z : Array Value) (hz : z.size = 3) => put_A bt2 (RLw.is hR2).2 z zQEqf_5
    have g1 := fun W => ((far2 (w := W) 57 57 c d).out _ (Below.refl _ _)).1.cell.ldN hcsz
    have g2 := fun W => ((far2 (w := W) 57 57 c d).out _ (Below.refl _ _)).2.cell.ldN hcsz2
    obtain ⟨x, hx⟩ : ∃ x, l[k] = x := ⟨_, rfl⟩
    obtain ⟨y, hy⟩ : ∃ y, l2[k] = y := ⟨_, rfl⟩
    rw [hx] at HX HR HM
    rw [hy] at HX2 HR2 HM2
    clear hcell hcs hat bt hR hx hkl hcell2 hcs2 hat2 bt2 hR2 hy hkl2
    go_wp2_with fail
    refine (hc.out x y c d _ HM.out HM2.out (RLw.map.on bl HR.out) (RLw.map.on bl HR2.out) zQEqf_4).mono ?_
    rintro e w2 ⟨rfl, hb2⟩
    have HW2 : Hid (Below w.heap.size w w2) := Lib.hid zQEqf_4
    clear ld1 ld2 ld3 f1 f2 f3 st1 st2 st3 s1 s2 s3 g1 g2 hb2
    cases hr : lwB x y
    · exact zQEqf_1
    · exact zQEqf_0
  · obtain rfl : m = k := by omega
    have HT := Lib.hid (show eqB lwB l l2 = true by have h1 := HA.out; rwa [List.take_of_length_le zQEqf_8, List.take_of_length_le zQEqf_7] at h1)
    exact zQEqf_2
end Go.Proofs.YtaaffmbnhjaebaaGreat.Md
