/-
  Parts of this proof: The contract of the reference's Same of models.
-/
import Derived.Test.YtaaffmbnhjaebaaGreatZQRssxd
namespace Go.Proofs.YtaaffmbnhjaebaaGreat.Md
open Go.RowKit Go.Maps
open Go.Proofs.YtaaffmbnhjaebaaGreat.Ex (Lo Gives block_lt)
set_option maxHeartbeats 8000000
set_option linter.unusedVariables false
set_option linter.unusedSimpArgs false
set_option maxRecDepth 100000 in
theorem rsameM_any (x y : Mdl) (P Q : PMdl) (w : World) (hx : OMdl (Lo w.heap.size) w x P) (hy : OMdl (Lo w.heap.size) w y Q) : Calls Tryz.prog 24 #[.agg (cMdl x P), .agg (cMdl y Q)] w (Gives (.bool (mdB x y)) w) := by
 have HX := Lib.hid hx
 have HY := Lib.hid hy
 have FX := far2 (w := w) 26 26 (cMdl x P) (cMdl y Q)
 obtain ⟨b0, h0⟩ : ∃ b, txB x.nm y.nm = b := ⟨_, rfl⟩
 obtain ⟨b1, h1⟩ : ∃ b, eqB vaB x.pa y.pa = b := ⟨_, rfl⟩
 obtain ⟨b2, h2⟩ : ∃ b, eqB siB x.si y.si = b := ⟨_, rfl⟩
 obtain ⟨b3, h3⟩ : ∃ b, eqB lkB x.li y.li = b := ⟨_, rfl⟩
 have HB := Lib.hid (show mdB x y = (b0 && b1 && b2 && b3) by unfold mdB; rw [h0, h1, h2, h3])
 have H0 := Lib.hid h0
 have H1 := Lib.hid h1
 have H2 := Lib.hid h2
 have H3 := Lib.hid h3
 have u0 : (x.nm.toList == y.nm.toList) = b0 := by rw [tx_is]; exact h0
 clear h0 h1 h2 h3
 have C1 := Lib.hid (fun W (hW : Below w.heap.size w W) => (show Calls Tryz.prog 49 #[.slice P.pap P.pam P.pac, .slice Q.pap Q.pam Q.pac] W (Gives (.bool b1) W) by rw [← H1.out]; exact rsame_Val (Lib.hid (HX.out.pa.on RVal.map hW)) (Lib.hid (HY.out.pa.on RVal.map hW))))
 obtain ⟨hl2, hm2⟩ := hx.si.len
 obtain ⟨hk2, hn2⟩ := hy.si.len
 have HL2 := Lib.hid (And.intro hl2 hm2)
 have HK2 := Lib.hid (And.intro hk2 hn2)
 obtain ⟨hl3, hm3⟩ := hx.li.len
 obtain ⟨hk3, hn3⟩ := hy.li.len
 have HL3 := Lib.hid (And.intro hl3 hm3)
 have HK3 := Lib.hid (And.intro hk3 hn3)
 clear hx hy hl2 hm2 hk2 hn2 hl3 hm3 hk3 hn3
 have q := FX.out ((w.alloc (.cells (cMdl x P) 26)).alloc (.cells (cMdl y Q) 26)) (Below.refl _ _)
 have g0 := q.1.get (cMdl0 x P)
 have gk0 := q.2.get (cMdl0 y Q)
 have g1 := q.1.get (cMdl1 x P)
 have gk1 := q.2.get (cMdl1 y Q)
 clear q
 cases b0 with
 | false =>
  go_enter Tryz.func24, Tryz.ntmps24
  have HN := Lib.hid (show mdB x y = false by rw [HB.out]; simp)
  go_wp2_with fail
  go_ret
  exact ⟨by rw [HN.out]; rfl, bl⟩
 | true =>
 go_enter Tryz.func24, Tryz.ntmps24
 go_wp2_with fail
 clear g0 gk0 g1 gk1
 refine (C1.out _ bl).mono ?_
 rintro e v1 ⟨rfl, hb1⟩
 have HW1 : Hid (Below ((w.alloc (.cells (cMdl x P) 26)).alloc (.cells (cMdl y Q) 26)).heap.size ((w.alloc (.cells (cMdl x P) 26)).alloc (.cells (cMdl y Q) 26)) v1) := Lib.hid bl
 have HV1 : Hid (Below w.heap.size w v1) := Lib.hid bl
 clear hb1
 cases b1 with
 | false =>
  have HN := Lib.hid (show mdB x y = false by rw [HB.out]; simp)
  go_wp2_with fail
  go_ret
  exact ⟨by rw [HN.out]; rfl, HV1.out⟩
 | true =>
 have q := FX.out v1 HW1.out
 have g2 := q.1.get (cMdl2 x P)
 have gk2 := q.2.get (cMdl2 y Q)
 have g3 := q.1.get (cMdl3 x P)
 have gk3 := q.2.get (cMdl3 y Q)
 clear q
 by_cases e2 : P.sim = Q.sim
 rotate_left 1
 · have z2 : b2 = false := by rw [← H2.out]; exact eqB_len (by rw [HL2.out.1, HK2.out.1]; exact e2)
   have HN := Lib.hid (show mdB x y = false by rw [HB.out, z2]; simp)
   have w2 : ((P.sim : Int) != (Q.sim : Int)) = true := bne_iff_ne.2 (by omega)
   clear z2 e2
   go_wp2_with fail
   go_ret
   exact ⟨by rw [HN.out]; rfl, HV1.out⟩
 have w2b : ((P.sim : Int) != (Q.sim : Int)) = false := by rw [bne, show ((P.sim : Int) == (Q.sim : Int)) = true from beq_iff_eq.2 (by omega)]; rfl
 replace e2 := Lib.hid e2
 by_cases e3 : P.lim = Q.lim
 rotate_left 1
 · have z3 : b3 = false := by rw [← H3.out]; exact eqB_len (by rw [HL3.out.1, HK3.out.1]; exact e3)
   have HN := Lib.hid (show mdB x y = false by rw [HB.out, z3]; simp)
   have w2 : ((P.lim : Int) != (Q.lim : Int)) = true := bne_iff_ne.2 (by omega)
   clear z3 e3
   go_wp2_with fail
   go_ret
   exact ⟨by rw [HN.out]; rfl, HV1.out⟩
 have w3b : ((P.lim : Int) != (Q.lim : Int)) = false := by rw [bne, show ((P.lim : Int) == (Q.lim : Int)) = true from beq_iff_eq.2 (by omega)]; rfl
 replace e3 := Lib.hid e3
 go_wp2_with fail
 clear g2 gk2 w2b g3 gk3 w3b
 have HR := Lib.hid (show mdB x y = (b2 && (b3)) by rw [HB.out]; simp only [Bool.true_and, Bool.and_true, Bool.and_assoc])
 clear HB
 go_wp2_with fail
 obtain ⟨kk2, hkk2⟩ : ∃ n : Nat, 13 = n := ⟨_, rfl⟩
 have hsz2 : ∀ w, (sizeOf 42).run Tryz.prog w = .ok kk2 w := fun w => by rw [Tryz.sizeOf42, hkk2]
 have HKK2 := Lib.hid hkk2
 clear hkk2
 go_loopw [5] (fun i wr => ∃ k : Nat, k ≤ P.sim ∧ i = .int .i64 (k : Nat) ∧ Hid (Below ((w.alloc (.cells (cMdl x P) 26)).alloc (.cells (cMdl y Q) 26)).heap.size ((w.alloc (.cells (cMdl x P) 26)).alloc (.cells (cMdl y Q) 26)) wr) ∧ Hid (eqB siB (x.si.take k) (y.si.take k) = true)) (fun i _ => P.sim - (intOf i).toNat)
 case atStart => exact ⟨0, Nat.zero_le _, rfl, Lib.hid (by have h1 := HW1.out; exact bl), Lib.hid rfl⟩
 case round =>
  obtain ⟨k, hk, rfl, HW, HA⟩ := hrel
  have k0 : (0 : Int) ≤ (k : Int) := by omega
  have k3 : (P.sim : Int) ≤ 9223372036854775807 := by have h2 := HL2.out.2; omega
  have hbw : Below w.heap.size w wr := by have h1 := HW.out; exact bl
  have HBW := Lib.hid hbw
  have q := FX.out wr HW.out
  have g1 := q.1.get (cMdl2 x P)
  have g2 := q.2.get (cMdl2 y Q)
  clear q
  rcases Nat.lt_or_ge k P.sim with h | h
  · have k1 : (k : Int) < (P.sim : Int) := by omega
    have k2 : (k : Int) < (Q.sim : Int) := by have h2 := e2.out; omega
    have hkl : k < x.si.length := by rw [HL2.out.1]; exact h
    have hkl2 : k < y.si.length := by rw [HK2.out.1]; omega
    obtain ⟨b, o, hp, hbG, hG, hcell⟩ := (HX.out.si.on RSte.map hbw).rows (by omega)
    obtain ⟨c, hcs, hat, hR⟩ := hcell.out k hkl
    obtain ⟨bb, o2, hp2, hbG2, hG2, hcell2⟩ := (HY.out.si.on RSte.map hbw).rows (by omega)
    obtain ⟨d, hcs2, hat2, hR2⟩ := hcell2.out k hkl2
    obtain ⟨x1, hx1⟩ : ∃ z, x.si[k] = z := ⟨_, rfl⟩
    obtain ⟨y1, hy1⟩ : ∃ z, y.si[k] = z := ⟨_, rfl⟩
    have HX1 := Lib.hid (show x.si[k]? = some x1 by rw [← hx1]; exact List.getElem?_eq_getElem hkl)
    have HY1 := Lib.hid (show y.si[k]? = some y1 by rw [← hy1]; exact List.getElem?_eq_getElem hkl2)
    rw [hx1] at hR
    rw [hy1] at hR2
    rw [hp] at g1
    rw [hp2] at g2
    obtain ⟨r, hr⟩ : ∃ r, siB x1 y1 = r := ⟨_, rfl⟩
    obtain ⟨P1, rfl, hP1⟩ := hR
    obtain ⟨Q1, rfl, hQ1⟩ := hR2
    have C := Lib.hid (fun W (hW : Below wr.heap.size wr W) => (show Calls Tryz.prog 50 #[.agg (cSte x1 P1), .agg (cSte y1 Q1)] W (Gives (.bool r) W) by rw [← hr]; exact rsite_same x1 y1 P1 Q1 W (hP1.on hW) (hQ1.on hW)))
    have FR : Hid (∀ W, Below wr.heap.size wr W → W.cell? ⟨w.heap.size, 2, none⟩ = some (.slice (some ⟨b, o, none⟩) P.sim P.sic) ∧ W.cell? ⟨w.heap.size + 1, 2, none⟩ = some (.slice (some ⟨bb, o2, none⟩) Q.sim Q.sic) ∧ (loadCellsFrom ⟨b, o + k * kk2, none⟩ 0 kk2 #[]).run Tryz.prog W = .ok (cSte x1 P1) W ∧ (loadCellsFrom ⟨bb, o2 + k * kk2, none⟩ 0 kk2 #[]).run Tryz.prog W = .ok (cSte y1 Q1) W) := Lib.hid fun W hW => ⟨(hW.cell (p := ⟨w.heap.size, 2, none⟩) (block_lt g1)).trans g1, (hW.cell (p := ⟨w.heap.size + 1, 2, none⟩) (block_lt g2)).trans g2, ((hat.on hW hG).at HKK2.out).ldN (by rw [hcs]; exact HKK2.out), ((hat2.on hW hG2).at HKK2.out).ldN (by rw [hcs2]; exact HKK2.out)⟩
    clear hp hp2 hx1 hy1 hcell hcs hat hkl hcell2 hcs2 hat2 hkl2 hbw hP1 hQ1 hbG hG hbG2 hG2
    go_wp2_with fail
    clear g1 g2
    go_region_held3 (fun W => W.cell? ⟨w.heap.size, 2, none⟩ = some (.slice (some ⟨b, o, none⟩) P.sim P.sic) ∧ W.cell? ⟨w.heap.size + 1, 2, none⟩ = some (.slice (some ⟨bb, o2, none⟩) Q.sim Q.sic) ∧ (loadCellsFrom ⟨b, o + k * kk2, none⟩ 0 kk2 #[]).run Tryz.prog W = .ok (cSte x1 P1) W ∧ (loadCellsFrom ⟨bb, o2 + k * kk2, none⟩ 0 kk2 #[]).run Tryz.prog W = .ok (cSte y1 Q1) W) (first | (refine FR.out _ ?_; exact bl; done) | (go_keep; done)) (first
     | (go_at_call 50; refine (C.out _ bl).mono ?_; rintro e vc ⟨rfl, hbc⟩))
    all_goals
     have HBC := Lib.hid hbc
     clear hbc
     cases r
     · have Hn := Lib.hid (show b2 = false by rw [← H2.out]; exact eqB_stop HX1.out HY1.out hr)
       have HN := Lib.hid (show mdB x y = false by rw [HR.out, Hn.out]; try simp)
       clear hr
       go_wp2_with fail
       go_ret
       exact ⟨by rw [HN.out]; rfl, by have h1 := HBW.out; have h2 := HBC.out; exact bl⟩
     · have Hy := Lib.hid (eqB_take HX1.out HY1.out HA.out hr)
       clear hr
       go_wp2_with fail
       go_roundw
       case rel => first | exact ⟨k + 1, by omega, by go_num, Lib.hid (by have h1 := HW.out; have h2 := HBC.out; exact bl), Hy⟩ | ((repeat apply Exists.intro); refine And.intro ?_ rfl; exact ⟨k + 1, by omega, by go_num, Lib.hid (by have h1 := HW.out; have h2 := HBC.out; exact bl), Hy⟩)
       case measure => simp [intOf]; omega
  · clear k3
    obtain rfl : k = P.sim := by omega
    have hb : b2 = true := by rw [← H2.out]; have h1 := HA.out; rwa [List.take_of_length_le (by rw [HL2.out.1]; exact Nat.le_refl _), List.take_of_length_le (by rw [HK2.out.1]; have h2 := e2.out; omega)] at h1
    subst hb
    rw [Bool.true_and] at HR
    have HG2 := HW
    go_wp2_with fail
    clear g1 g2 hk k0 h hbw HBW HA HW
    obtain ⟨kk3, hkk3⟩ : ∃ n : Nat, 3 = n := ⟨_, rfl⟩
    have hsz3 : ∀ w, (sizeOf 49).run Tryz.prog w = .ok kk3 w := fun w => by rw [Tryz.sizeOf49, hkk3]
    have HKK3 := Lib.hid hkk3
    clear hkk3
    go_loopw [6] (fun i wr => ∃ k : Nat, k ≤ P.lim ∧ i = .int .i64 (k : Nat) ∧ Hid (Below ((w.alloc (.cells (cMdl x P) 26)).alloc (.cells (cMdl y Q) 26)).heap.size ((w.alloc (.cells (cMdl x P) 26)).alloc (.cells (cMdl y Q) 26)) wr) ∧ Hid (eqB lkB (x.li.take k) (y.li.take k) = true)) (fun i _ => P.lim - (intOf i).toNat)
    case atStart => exact ⟨0, Nat.zero_le _, rfl, Lib.hid (by have h1 := HG2.out; exact bl), Lib.hid rfl⟩
    case round =>
     obtain ⟨k, hk, rfl, HW, HA⟩ := hrel
     have k0 : (0 : Int) ≤ (k : Int) := by omega
     have k3 : (P.lim : Int) ≤ 9223372036854775807 := by have h2 := HL3.out.2; omega
     have hbw : Below w.heap.size w wr := by have h1 := HW.out; exact bl
     have HBW := Lib.hid hbw
     have q := FX.out wr HW.out
     have g1 := q.1.get (cMdl3 x P)
     have g2 := q.2.get (cMdl3 y Q)
     clear q
     rcases Nat.lt_or_ge k P.lim with h | h
     · have k1 : (k : Int) < (P.lim : Int) := by omega
       have k2 : (k : Int) < (Q.lim : Int) := by have h2 := e3.out; omega
       have hkl : k < x.li.length := by rw [HL3.out.1]; exact h
       have hkl2 : k < y.li.length := by rw [HK3.out.1]; omega
       obtain ⟨b, o, hp, hbG, hG, hcell⟩ := (HX.out.li.on RLnk.map hbw).rows (by omega)
       obtain ⟨c, hcs, hat, hR⟩ := hcell.out k hkl
       obtain ⟨bb, o2, hp2, hbG2, hG2, hcell2⟩ := (HY.out.li.on RLnk.map hbw).rows (by omega)
       obtain ⟨d, hcs2, hat2, hR2⟩ := hcell2.out k hkl2
       obtain ⟨x1, hx1⟩ : ∃ z, x.li[k] = z := ⟨_, rfl⟩
       obtain ⟨y1, hy1⟩ : ∃ z, y.li[k] = z := ⟨_, rfl⟩
       have HX1 := Lib.hid (show x.li[k]? = some x1 by rw [← hx1]; exact List.getElem?_eq_getElem hkl)
       have HY1 := Lib.hid (show y.li[k]? = some y1 by rw [← hy1]; exact List.getElem?_eq_getElem hkl2)
       rw [hx1] at hR
       rw [hy1] at hR2
       rw [hp] at g1
       rw [hp2] at g2
       obtain ⟨r, hr⟩ : ∃ r, lkB x1 y1 = r := ⟨_, rfl⟩
       have hcsz : c.size = kk3 := by rw [hcs, HKK3.out]
       have hcsz2 : d.size = kk3 := by rw [hcs2, HKK3.out]
       have bt : Big 49 c.size := by rw [hcs]; exact bLnk
       have bt2 : Big 49 d.size := by rw [hcs2]; exact bLnk
       have ld0 := fun n => At.ldN (w := wr.drewN n) (hat.at HKK3.out) hcsz
       have le0 := fun n => At.ldN (w := wr.drewN n) (hat2.at HKK3.out) hcsz2
       have ld1 := fun n => At.ldV (w := wr.drewN n) (hat.at HKK3.out) bt
       have le1 := fun n => At.ldV (w := wr.drewN n) (hat2.at HKK3.out) bt2
       have ld2 := fun n => At.ldA (w := wr.drewN n) (hat.at HKK3.out) bt
       have le2 := fun n => At.ldA (w := wr.drewN n) (hat2.at HKK3.out) bt2
       have heq : ∀ W, (Op.equalIn 10000 49 (.agg c) (.agg d)).run Tryz.prog W = .ok r W := fun W => by rw [hR, hR2, ← hr]; exact eq_Lnk _ _ W
       clear hp hp2 bt bt2 hx1 hy1 hcell hcs hat hR hkl hcell2 hcs2 hat2 hR2 hkl2 hbw
       cases r
       · have Hn := Lib.hid (show b3 = false by rw [← H3.out]; exact eqB_stop HX1.out HY1.out hr)
         have HN := Lib.hid (show mdB x y = false by rw [HR.out, Hn.out]; try simp)
         clear hr
         go_wp2_with fail
         try (go_quiet (fail); go_wp2_with fail)
         go_ret
         exact ⟨by rw [HN.out]; rfl, by have h1 := HBW.out; exact bl⟩
       · have Hy := Lib.hid (eqB_take HX1.out HY1.out HA.out hr)
         clear hr
         go_wp2_with fail
         try (go_quiet (fail); go_wp2_with fail)
         go_roundw
         case rel => first | exact ⟨k + 1, by omega, by go_num, Lib.hid (by have h1 := HW.out; exact bl), Hy⟩ | ((repeat apply Exists.intro); refine And.intro ?_ rfl; exact ⟨k + 1, by omega, by go_num, Lib.hid (by have h1 := HW.out; exact bl), Hy⟩)
         case measure => simp [intOf]; omega
     · clear k3
       obtain rfl : k = P.lim := by omega
       have hb : b3 = true := by rw [← H3.out]; have h1 := HA.out; rwa [List.take_of_length_le (by rw [HL3.out.1]; exact Nat.le_refl _), List.take_of_length_le (by rw [HK3.out.1]; have h2 := e3.out; omega)] at h1
       subst hb
       go_wp2_with fail
       go_ret
       exact ⟨by rw [HR.out]; rfl, hbw⟩
end Go.Proofs.YtaaffmbnhjaebaaGreat.Md
