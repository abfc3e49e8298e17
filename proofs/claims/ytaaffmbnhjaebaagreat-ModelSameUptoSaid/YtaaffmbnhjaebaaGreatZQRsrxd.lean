/-
  Parts of this proof: The contracts of the reference's Same and Check of a distribution as they stand in a model, and of sameResource. The contracts of the reference's sameTexts, SameFields and SameValues. The contract of the reference's sameInts. The contracts of the reference's Same and SameAll. The contracts of the reference's Same and sameExprs. The contract of the reference's Same.
-/
import Derived.Test.YtaaffmbnhjaebaaGreatZQEqu
import Derived.Test.YtaaffmbnhjaebaaGreatZDSamexad
import Derived.Deep.TreeCalls
import Derived.Test.YtaaffmbnhjaebaaGreatZQMathxd
namespace Go.Proofs.YtaaffmbnhjaebaaGreat.Md
open Go.RowKit
open Go.Proofs.YtaaffmbnhjaebaaGreat.Sm (sameDt)
open Go.Proofs.YtaaffmbnhjaebaaGreat.Ex (Lo Gives)
set_option maxHeartbeats 4000000
set_option linter.unusedVariables false
theorem zQRsrd_0 {p : Prop} (h : p := by
 clear hlm hlm2 hm hm2 h1 HB
 go_enter Tryz.func92, Tryz.ntmps92
 go_wp2_with fail
 go_ret
 exact ⟨by rw [HN.out]; rfl, bl⟩
 ) : p := h
set_option maxRecDepth 100000 in
theorem rres_same (x y : Res) (P Q : PRes) (w : World) (hx : ORes (Lo w.heap.size) w x P) (hy : ORes (Lo w.heap.size) w y Q) : Calls Tryz.prog 92 #[.agg (cRes x P), .agg (cRes y Q)] w (Gives (.bool (reB x y)) w) := by
 have HX := Lib.hid hx.flt
 have HY := Lib.hid hy.flt
 have HH := Lib.hid hx.sh
 have HH2 := Lib.hid hy.sh
 obtain ⟨hlm, hm⟩ := hx.sh.len
 obtain ⟨hlm2, hm2⟩ := hy.sh.len
 obtain ⟨l, hlx⟩ : ∃ l, x.sh = l := ⟨_, rfl⟩
 obtain ⟨l2, hlx2⟩ : ∃ l, y.sh = l := ⟨_, rfl⟩
 obtain ⟨m, hmx⟩ : ∃ m, P.shm = m := ⟨_, rfl⟩
 obtain ⟨m2, hmx2⟩ : ∃ m, Q.shm = m := ⟨_, rfl⟩
 have FX := far2 (w := w) 92 92 (cRes x P) (cRes y Q)
 have c1 : (cRes x P)[2]? = some (.slice P.shp m P.shc) := by rw [cRes2, hmx]
 have c2 : (cRes y Q)[2]? = some (.slice Q.shp m2 Q.shc) := by rw [cRes2, hmx2]
 rw [hmx, hlx] at HH hlm
 rw [hmx] at hm
 rw [hmx2, hlx2] at HH2 hlm2
 rw [hmx2] at hm2
 have HL := Lib.hid hlm
 have HL2 := Lib.hid hlm2
 obtain ⟨b2, h2⟩ : ∃ b, sameDt x.up y.up = b := ⟨_, rfl⟩
 obtain ⟨b3, h3⟩ : ∃ b, sameDt x.dn y.dn = b := ⟨_, rfl⟩
 have C1 := Lib.hid (fun W (hW : Below w.heap.size w W) => (show Calls Tryz.prog 128 #[.agg #[.int .i64 x.up.op, .int .i64 x.up.a, .int .i64 x.up.b, .int .i64 x.up.n, .slice P.upvp P.upvm P.upvc, .slice P.upwp P.upwm P.upwc], .agg #[.int .i64 y.up.op, .int .i64 y.up.a, .int .i64 y.up.b, .int .i64 y.up.n, .slice Q.upvp Q.upvm Q.upvc, .slice Q.upwp Q.upwm Q.upwc]] W (Gives (.bool b2) W) by rw [← h2]; exact rdsame_at x.up y.up _ _ _ _ _ _ _ _ _ _ _ _ (HX.out.on hW).uv (HX.out.on hW).uw (HY.out.on hW).uv (HY.out.on hW).uw))
 have C2 := Lib.hid (fun W (hW : Below w.heap.size w W) => (show Calls Tryz.prog 128 #[.agg #[.int .i64 x.dn.op, .int .i64 x.dn.a, .int .i64 x.dn.b, .int .i64 x.dn.n, .slice P.dnvp P.dnvm P.dnvc, .slice P.dnwp P.dnwm P.dnwc], .agg #[.int .i64 y.dn.op, .int .i64 y.dn.a, .int .i64 y.dn.b, .int .i64 y.dn.n, .slice Q.dnvp Q.dnvm Q.dnvc, .slice Q.dnwp Q.dnwm Q.dnwc]] W (Gives (.bool b3) W) by rw [← h3]; exact rdsame_at x.dn y.dn _ _ _ _ _ _ _ _ _ _ _ _ (HX.out.on hW).dv (HX.out.on hW).dw (HY.out.on hW).dv (HY.out.on hW).dw))
 have HB := Lib.hid (show reB x y = (txB x.nm y.nm && inB x.un y.un && eqB chB l l2 && inB x.cy y.cy && (txB x.fs y.fs && b2 && b3)) by unfold reB fuB; rw [hlx, hlx2, h2, h3])
 have t3 : (m : Int) ≤ 9223372036854775807 := by omega
 have FK : Hid (∀ W, Below ((w.alloc (.cells (cRes x P) 92)).alloc (.cells (cRes y Q) 92)).heap.size ((w.alloc (.cells (cRes x P) 92)).alloc (.cells (cRes y Q) 92)) W → W.cell? ⟨w.heap.size, 2, none⟩ = some (.slice P.shp m P.shc) ∧ W.cell? ⟨w.heap.size + 1, 2, none⟩ = some (.slice Q.shp m2 Q.shc)) := Lib.hid fun W hb => by
  have q := FX.out W hb
  exact ⟨q.1.get c1, q.2.get c2⟩
 have q := FX.out ((w.alloc (.cells (cRes x P) 92)).alloc (.cells (cRes y Q) 92)) (Below.refl _ _)
 have g0 := q.1.get (cRes0 x P)
 have g1 := q.1.get (cRes1 x P)
 have g2 := q.1.get c1
 have g3 := q.1.get (cRes3 x P)
 have g4 := q.1.get (cRes4 x P)
 have k0 := q.2.get (cRes0 y Q)
 have k1 := q.2.get (cRes1 y Q)
 have k2 := q.2.get c2
 have k3 := q.2.get (cRes3 y Q)
 have k4 := q.2.get (cRes4 y Q)
 clear q
 have z0 : (x.nm.toList == y.nm.toList) = txB x.nm y.nm := tx_is _ _
 have y0 : (x.fs.toList == y.fs.toList) = txB x.fs y.fs := tx_is _ _
 clear hx hy c1 c2 hlx hlx2 hmx hmx2 h2 h3
 cases h1 : txB x.nm y.nm
 · have HN : Hid (reB x y = false) := Lib.hid (by rw [HB.out, h1]; rfl)
   rw [h1] at z0
   exact zQRsrd_0
 rw [h1] at z0
 by_cases h2 : x.un = y.un
 rotate_left 1
 · have HN : Hid (reB x y = false) := Lib.hid (by rw [HB.out, show inB x.un y.un = false from decide_eq_false h2]; simp)
   have u1 : (x.un == y.un) = false := beq_eq_false_iff_ne.2 h2
   have u2 : (x.un != y.un) = true := bne_iff_ne.2 h2
   exact zQRsrd_0
 have u1 : (x.un == y.un) = true := beq_iff_eq.2 h2
 have u2 : (x.un != y.un) = false := by rw [bne, u1]; rfl
 by_cases hmm : m = m2
 rotate_left 1
 · have HN : Hid (reB x y = false) := Lib.hid (by rw [HB.out, eqB_len (f := chB) (l := l) (m := l2) (by omega)]; simp)
   have u3 : ((m : Int) == (m2 : Int)) = false := beq_eq_false_iff_ne.2 (by omega)
   have u4 : ((m : Int) != (m2 : Int)) = true := bne_iff_ne.2 (by omega)
   have u5 : (m == m2) = false := beq_eq_false_iff_ne.2 hmm
   have u6 : (m != m2) = true := bne_iff_ne.2 hmm
   exact zQRsrd_0
 subst hmm
 by_cases h3 : x.cy = y.cy
 rotate_left 1
 · have HN : Hid (reB x y = false) := Lib.hid (by rw [HB.out, show inB x.cy y.cy = false from decide_eq_false h3]; simp)
   have u3 : (x.cy == y.cy) = false := beq_eq_false_iff_ne.2 h3
   have u4 : (x.cy != y.cy) = true := bne_iff_ne.2 h3
   exact zQRsrd_0
 have u3 : (x.cy == y.cy) = true := beq_iff_eq.2 h3
 have u4 : (x.cy != y.cy) = false := by rw [bne, u3]; rfl
 cases h4 : txB x.fs y.fs
 · have HN : Hid (reB x y = false) := Lib.hid (by rw [HB.out, h4]; simp)
   rw [h4] at y0
   clear hlm hlm2 hm hm2 h1 HB h4
   go_enter Tryz.func92, Tryz.ntmps92
   go_wp2_with fail
   go_ret
   exact ⟨by rw [HN.out]; rfl, bl⟩
 rw [h4] at y0
 have HE : Hid (reB x y = (eqB chB l l2 && (b2 && b3))) := Lib.hid (by rw [HB.out, h1, h4, show inB x.un y.un = true from decide_eq_true h2, show inB x.cy y.cy = true from decide_eq_true h3]; simp)
 clear hlm hm hlm2 hm2 h1 h4 HB
 obtain ⟨kk, hkk⟩ : ∃ n : Nat, 2 = n := ⟨_, rfl⟩
 have hsz : ∀ w, (sizeOf 163).run Tryz.prog w = .ok kk w := fun w => by rw [Tryz.sizeOf163, hkk]
 have HKK := Lib.hid hkk
 clear hkk
 go_enter Tryz.func92, Tryz.ntmps92
 go_wp2_with fail
 clear g0 g1 g2 g3 g4 k0 k1 k2 k3 k4
 go_loopw [5] (fun i wr => ∃ k : Nat, k ≤ m ∧ i = .int .i64 (k : Nat) ∧ Hid (Below ((w.alloc (.cells (cRes x P) 92)).alloc (.cells (cRes y Q) 92)).heap.size ((w.alloc (.cells (cRes x P) 92)).alloc (.cells (cRes y Q) 92)) wr) ∧ Hid (eqB chB (l.take k) (l2.take k) = true)) (fun i _ => m - (intOf i).toNat)
 case atStart => exact ⟨0, Nat.zero_le _, rfl, Lib.hid bl, Lib.hid rfl⟩
 case round =>
  obtain ⟨k, hk, rfl, HW, HA⟩ := hrel
  have k0 : (0 : Int) ≤ (k : Int) := by omega
  rcases Nat.lt_or_ge k m with h | h
  · obtain ⟨g1, g4⟩ := FK.out wr HW.out
    have k1 : (k : Int) < (m : Int) := by omega
    have hkl : k < l.length := by rw [HL.out]; exact h
    have hkl2 : k < l2.length := by rw [HL2.out]; exact h
    have HX3 := Lib.hid (List.getElem?_eq_getElem hkl)
    have HX2 := Lib.hid (List.getElem?_eq_getElem hkl2)
    have hbw : Below w.heap.size w wr := by have HBB := HW.out; exact bl
    obtain ⟨b, o, hp, hbG, hG, hcell⟩ := (HH.out.below RChg.map hbw).rows (by omega)
    obtain ⟨c, hcs, hat, hR⟩ := hcell.out k hkl
    obtain ⟨b2', o2, hp2, hbG2, hG2, hcell2⟩ := (HH2.out.below RChg.map hbw).rows (by omega)
    obtain ⟨d, hcs2, hat2, hR2⟩ := hcell2.out k hkl2
    rw [hp] at g1
    rw [hp2] at g4
    have hcsz : c.size = kk := by rw [hcs, HKK.out]
    have hcsz2 : d.size = kk := by rw [hcs2, HKK.out]
    have bt : Big 163 c.size := by rw [hcs]; exact bChg
    have bt2 : Big 163 d.size := by rw [hcs2]; exact bChg
    have ld1 := fun n => At.ldN (w := wr.drewN n) (hat.at HKK.out) hcsz
    have ld2 := fun n => At.ldV (w := wr.drewN n) (hat.at HKK.out) bt
    have ld3 := fun n => At.ldA (w := wr.drewN n) (hat.at HKK.out) bt
    have ld4 := fun n => At.ldN (w := wr.drewN n) (hat2.at HKK.out) hcsz2
    have ld5 := fun n => At.ldV (w := wr.drewN n) (hat2.at HKK.out) bt2
    have ld6 := fun n => At.ldA (w := wr.drewN n) (hat2.at HKK.out) bt2
    have heq : ∀ W, (Op.equalIn 10000 163 (.agg c) (.agg d)).run Tryz.prog W = .ok (chB l[k] l2[k]) W := fun W => by rw [hR, hR2]; exact eq_Chg _ _ W
    obtain ⟨x1, hx⟩ : ∃ x, l[k] = x := ⟨_, rfl⟩
    obtain ⟨y1, hy⟩ : ∃ y, l2[k] = y := ⟨_, rfl⟩
    rw [hx] at HX3 heq
    rw [hy] at HX2 heq
    clear bt bt2 hx hy
    clear hcell hcs hat hR hkl hcell2 hcs2 hat2 hR2 hkl2 hbw
    cases hr : chB x1 y1
    · have H := Lib.hid (eqB_stop HX3.out HX2.out hr)
      rw [hr] at heq
      clear hr
      go_wp2_with fail
      try (go_quiet (fail); go_wp2_with fail)
      go_ret
      exact ⟨by rw [HE.out, H.out]; rfl, by have HBB := HW.out; exact bl⟩
    · have H := Lib.hid (eqB_take HX3.out HX2.out HA.out hr)
      rw [hr] at heq
      clear hr
      go_wp2_with fail
      try (go_quiet (fail); go_wp2_with fail)
      go_roundw
      case rel => exact ⟨k + 1, by omega, by go_num, Lib.hid (by have HBB := HW.out; exact bl), H⟩
      case measure => simp [intOf]; omega
  · obtain rfl : m = k := by omega
    have HT := Lib.hid (show reB x y = (b2 && b3) by rw [HE.out, show eqB chB l l2 = true by have h1 := HA.out; rwa [List.take_of_length_le (by rw [HL.out]; exact Nat.le_refl _), List.take_of_length_le (by rw [HL2.out]; exact Nat.le_refl _)] at h1]; rfl)
    have HBW : Hid (Below w.heap.size w wr) := Lib.hid (by have HBB := HW.out; exact bl)
    obtain ⟨g1, g4⟩ := FK.out wr HW.out
    have q := FX.out wr HW.out
    have p5 := q.1.get (cRes5 x P)
    have r5 := q.2.get (cRes5 y Q)
    have p6 := q.1.get (cRes6 x P)
    have r6 := q.2.get (cRes6 y Q)
    have p7 := q.1.get (cRes7 x P)
    have r7 := q.2.get (cRes7 y Q)
    have p8 := q.1.get (cRes8 x P)
    have r8 := q.2.get (cRes8 y Q)
    have p9 := q.1.get (cRes9 x P)
    have r9 := q.2.get (cRes9 y Q)
    have p10 := q.1.get (cRes10 x P)
    have r10 := q.2.get (cRes10 y Q)
    clear q
    go_wp2_with fail
    refine (C1.out _ HBW.out).mono ?_
    rintro e v2 ⟨rfl, hb2⟩
    cases b2 with
    | false =>
     go_wp2_with fail
     go_ret
     exact ⟨by rw [HT.out]; rfl, by have HBB := HBW.out; exact bl⟩
    | true =>
     have HBW2 : Hid (Below w.heap.size w v2) := Lib.hid (by have HBB := HBW.out; exact bl)
     have q := FX.out v2 (by have HBB := HW.out; exact bl)
     clear p5 r5 p6 r6 p7 r7 p8 r8 p9 r9 p10 r10
     have p11 := q.1.get (cRes11 x P)
     have r11 := q.2.get (cRes11 y Q)
     have p12 := q.1.get (cRes12 x P)
     have r12 := q.2.get (cRes12 y Q)
     have p13 := q.1.get (cRes13 x P)
     have r13 := q.2.get (cRes13 y Q)
     have p14 := q.1.get (cRes14 x P)
     have r14 := q.2.get (cRes14 y Q)
     have p15 := q.1.get (cRes15 x P)
     have r15 := q.2.get (cRes15 y Q)
     have p16 := q.1.get (cRes16 x P)
     have r16 := q.2.get (cRes16 y Q)
     clear q
     go_wp2_with fail
     refine (C2.out _ HBW2.out).mono ?_
     rintro e v3 ⟨rfl, hb3⟩
     go_wp2_with fail
     go_ret
     exact ⟨by rw [HT.out]; simp, by have HBB := HBW2.out; exact bl⟩
end Go.Proofs.YtaaffmbnhjaebaaGreat.Md
namespace Go.Proofs.YtaaffmbnhjaebaaGreat.Md
open Go.RowKit
open Go.Proofs.YtaaffmbnhjaebaaGreat.Ex (Lo Gives ret_bool)
set_option maxHeartbeats 2000000
set_option linter.unusedVariables false
theorem zQRfsd_0 {p : Prop} (h : p := by
 clear hr
 go_wp2_with fail
 go_quiet (fail)
 go_wp2_with fail
 go_roundw
 case rel => exact ⟨k + 1, by omega, by go_num, Lib.hid (by have HBB := HW.out; exact bl), H⟩
 case measure => simp [intOf]; omega
 ) : p := h
theorem zQRfsd_1 {p : Prop} (h : p := by
 clear hr
 go_wp2_with fail
 go_quiet (fail)
 go_wp2_with fail
 go_ret
 exact ⟨ret_bool H.out.symm, by have HBB := HW.out; exact bl⟩
 ) : p := h
set_option maxRecDepth 100000 in
theorem rsame_Fld {l l2 : List Fld} {p p2 : Option Addr} {m m2 c c2 : Nat} {w : World} (hl : Hid (Rw 2 RFld (Lo w.heap.size) w l p m)) (hl2 : Hid (Rw 2 RFld (Lo w.heap.size) w l2 p2 m2)) :
 Calls Tryz.prog 93 #[.slice p m c, .slice p2 m2 c2] w (Gives (.bool (eqB fdB l l2)) w) := by
 obtain ⟨hlm, hm⟩ := hl.out.len
 obtain ⟨hlm2, hm2⟩ := hl2.out.len
 have HL := Lib.hid hlm
 have HL2 := Lib.hid hlm2
 have t3 : (m : Int) ≤ 9223372036854775807 := by omega
 by_cases hmm : m = m2
 rotate_left 1
 · have HN := Lib.hid (eqB_len (f := fdB) (l := l) (m := l2) (by omega))
   have u1 : ((m : Int) == (m2 : Int)) = false := beq_eq_false_iff_ne.2 (by omega)
   have u2 : ((m : Int) != (m2 : Int)) = true := bne_iff_ne.2 (by omega)
   have u3 : (m == m2) = false := beq_eq_false_iff_ne.2 hmm
   have u4 : (m != m2) = true := bne_iff_ne.2 hmm
   clear hlm hm hlm2 hm2 t3
   go_enter Tryz.func93, Tryz.ntmps93
   go_wp2_with fail
   go_ret
   exact ⟨by rw [HN.out]; rfl, bl⟩
 subst hmm
 clear hlm hm hlm2 hm2
 obtain ⟨kk, hkk⟩ : ∃ n : Nat, 2 = n := ⟨_, rfl⟩
 have hsz : ∀ w, (sizeOf 103).run Tryz.prog w = .ok kk w := fun w => by rw [Tryz.sizeOf103, hkk]
 have HKK := Lib.hid hkk
 clear hkk
 go_enter Tryz.func93, Tryz.ntmps93
 go_wp2_with fail
 go_loopw [5] (fun i wr => ∃ k : Nat, k ≤ m ∧ i = .int .i64 (k : Nat) ∧ Hid (Below w.heap.size w wr) ∧ Hid (eqB fdB (l.take k) (l2.take k) = true)) (fun i _ => m - (intOf i).toNat)
 case atStart => exact ⟨0, Nat.zero_le _, rfl, Lib.hid (Below.refl _ _), Lib.hid rfl⟩
 case round =>
  obtain ⟨k, hk, rfl, HW, HA⟩ := hrel
  have k0 : (0 : Int) ≤ (k : Int) := by omega
  rcases Nat.lt_or_ge k m with h | h
  · have k1 : (k : Int) < (m : Int) := by omega
    have hkl : k < l.length := by rw [HL.out]; exact h
    have hkl2 : k < l2.length := by rw [HL2.out]; exact h
    have HX := Lib.hid (List.getElem?_eq_getElem hkl)
    have HX2 := Lib.hid (List.getElem?_eq_getElem hkl2)
    obtain ⟨b, o, rfl, hbG, hG, hcell⟩ := (hl.out.below RFld.map HW.out).rows (by omega)
    obtain ⟨c, hcs, hat, hR⟩ := hcell.out k hkl
    obtain ⟨b2, o2, rfl, hbG2, hG2, hcell2⟩ := (hl2.out.below RFld.map HW.out).rows (by omega)
    obtain ⟨d, hcs2, hat2, hR2⟩ := hcell2.out k hkl2
    have hcsz : c.size = kk := by rw [hcs, HKK.out]
    have hcsz2 : d.size = kk := by rw [hcs2, HKK.out]
    have bt : Big 103 c.size := by rw [hcs]; exact bFld
    have bt2 : Big 103 d.size := by rw [hcs2]; exact bFld
    have ld1 := fun n => At.ldN (w := wr.drewN n) (hat.at HKK.out) hcsz
    have ld2 := fun n => At.ldV (w := wr.drewN n) (hat.at HKK.out) bt
    have ld3 := fun n => At.ldA (w := wr.drewN n) (hat.at HKK.out) bt
    have ld4 := fun n => At.ldN (w := wr.drewN n) (hat2.at HKK.out) hcsz2
    have ld5 := fun n => At.ldV (w := wr.drewN n) (hat2.at HKK.out) bt2
    have ld6 := fun n => At.ldA (w := wr.drewN n) (hat2.at HKK.out) bt2
    have heq : ∀ W, (Op.equalIn 10000 103 (.agg c) (.agg d)).run Tryz.prog W = .ok (fdB l[k] l2[k]) W := fun W => by rw [hR, hR2]; exact eq_Fld _ _ W
    obtain ⟨x, hx⟩ : ∃ x, l[k] = x := ⟨_, rfl⟩
    obtain ⟨y, hy⟩ : ∃ y, l2[k] = y := ⟨_, rfl⟩
    rw [hx] at HX heq
    rw [hy] at HX2 heq
    clear bt bt2 hx hy
    clear hcell hcs hat hR hkl hcell2 hcs2 hat2 hR2 hkl2
    cases hr : fdB x y
    · have H := Lib.hid (eqB_stop HX.out HX2.out hr)
      rw [hr] at heq
      exact zQRfsd_1
    · have H := Lib.hid (eqB_take HX.out HX2.out HA.out hr)
      rw [hr] at heq
      exact zQRfsd_0
  · obtain rfl : m = k := by omega
    have HT := Lib.hid (show eqB fdB l l2 = true by have h1 := HA.out; rwa [List.take_of_length_le (by rw [HL.out]; exact Nat.le_refl _), List.take_of_length_le (by rw [HL2.out]; exact Nat.le_refl _)] at h1)
    go_wp2_with fail
    go_ret
    exact ⟨ret_bool HT.out.symm, HW.out⟩
set_option maxRecDepth 100000 in
theorem rsame_Val {l l2 : List Val} {p p2 : Option Addr} {m m2 c c2 : Nat} {w : World} (hl : Hid (Rw 3 RVal (Lo w.heap.size) w l p m)) (hl2 : Hid (Rw 3 RVal (Lo w.heap.size) w l2 p2 m2)) :
 Calls Tryz.prog 49 #[.slice p m c, .slice p2 m2 c2] w (Gives (.bool (eqB vaB l l2)) w) := by
 obtain ⟨hlm, hm⟩ := hl.out.len
 obtain ⟨hlm2, hm2⟩ := hl2.out.len
 have HL := Lib.hid hlm
 have HL2 := Lib.hid hlm2
 have t3 : (m : Int) ≤ 9223372036854775807 := by omega
 by_cases hmm : m = m2
 rotate_left 1
 · have HN := Lib.hid (eqB_len (f := vaB) (l := l) (m := l2) (by omega))
   have u1 : ((m : Int) == (m2 : Int)) = false := beq_eq_false_iff_ne.2 (by omega)
   have u2 : ((m : Int) != (m2 : Int)) = true := bne_iff_ne.2 (by omega)
   have u3 : (m == m2) = false := beq_eq_false_iff_ne.2 hmm
   have u4 : (m != m2) = true := bne_iff_ne.2 hmm
   clear hlm hm hlm2 hm2 t3
   go_enter Tryz.func49, Tryz.ntmps49
   go_wp2_with fail
   go_ret
   exact ⟨by rw [HN.out]; rfl, bl⟩
 subst hmm
 clear hlm hm hlm2 hm2
 obtain ⟨kk, hkk⟩ : ∃ n : Nat, 3 = n := ⟨_, rfl⟩
 have hsz : ∀ w, (sizeOf 63).run Tryz.prog w = .ok kk w := fun w => by rw [Tryz.sizeOf63, hkk]
 have HKK := Lib.hid hkk
 clear hkk
 go_enter Tryz.func49, Tryz.ntmps49
 go_wp2_with fail
 go_loopw [5] (fun i wr => ∃ k : Nat, k ≤ m ∧ i = .int .i64 (k : Nat) ∧ Hid (Below w.heap.size w wr) ∧ Hid (eqB vaB (l.take k) (l2.take k) = true)) (fun i _ => m - (intOf i).toNat)
 case atStart => exact ⟨0, Nat.zero_le _, rfl, Lib.hid (Below.refl _ _), Lib.hid rfl⟩
 case round =>
  obtain ⟨k, hk, rfl, HW, HA⟩ := hrel
  have k0 : (0 : Int) ≤ (k : Int) := by omega
  rcases Nat.lt_or_ge k m with h | h
  · have k1 : (k : Int) < (m : Int) := by omega
    have hkl : k < l.length := by rw [HL.out]; exact h
    have hkl2 : k < l2.length := by rw [HL2.out]; exact h
    have HX := Lib.hid (List.getElem?_eq_getElem hkl)
    have HX2 := Lib.hid (List.getElem?_eq_getElem hkl2)
    obtain ⟨b, o, rfl, hbG, hG, hcell⟩ := (hl.out.below RVal.map HW.out).rows (by omega)
    obtain ⟨c, hcs, hat, hR⟩ := hcell.out k hkl
    obtain ⟨b2, o2, rfl, hbG2, hG2, hcell2⟩ := (hl2.out.below RVal.map HW.out).rows (by omega)
    obtain ⟨d, hcs2, hat2, hR2⟩ := hcell2.out k hkl2
    have hcsz : c.size = kk := by rw [hcs, HKK.out]
    have hcsz2 : d.size = kk := by rw [hcs2, HKK.out]
    have bt : Big 63 c.size := by rw [hcs]; exact bVal
    have bt2 : Big 63 d.size := by rw [hcs2]; exact bVal
    have ld1 := fun n => At.ldN (w := wr.drewN n) (hat.at HKK.out) hcsz
    have ld2 := fun n => At.ldV (w := wr.drewN n) (hat.at HKK.out) bt
    have ld3 := fun n => At.ldA (w := wr.drewN n) (hat.at HKK.out) bt
    have ld4 := fun n => At.ldN (w := wr.drewN n) (hat2.at HKK.out) hcsz2
    have ld5 := fun n => At.ldV (w := wr.drewN n) (hat2.at HKK.out) bt2
    have ld6 := fun n => At.ldA (w := wr.drewN n) (hat2.at HKK.out) bt2
    have heq : ∀ W, (Op.equalIn 10000 63 (.agg c) (.agg d)).run Tryz.prog W = .ok (vaB l[k] l2[k]) W := fun W => by rw [hR, hR2]; exact eq_Val _ _ W
    obtain ⟨x, hx⟩ : ∃ x, l[k] = x := ⟨_, rfl⟩
    obtain ⟨y, hy⟩ : ∃ y, l2[k] = y := ⟨_, rfl⟩
    rw [hx] at HX heq
    rw [hy] at HX2 heq
    clear bt bt2 hx hy
    clear hcell hcs hat hR hkl hcell2 hcs2 hat2 hR2 hkl2
    cases hr : vaB x y
    · have H := Lib.hid (eqB_stop HX.out HX2.out hr)
      rw [hr] at heq
      exact zQRfsd_1
    · have H := Lib.hid (eqB_take HX.out HX2.out HA.out hr)
      rw [hr] at heq
      exact zQRfsd_0
  · obtain rfl : m = k := by omega
    have HT := Lib.hid (show eqB vaB l l2 = true by have h1 := HA.out; rwa [List.take_of_length_le (by rw [HL.out]; exact Nat.le_refl _), List.take_of_length_le (by rw [HL2.out]; exact Nat.le_refl _)] at h1)
    go_wp2_with fail
    go_ret
    exact ⟨ret_bool HT.out.symm, HW.out⟩
set_option maxRecDepth 100000 in
theorem rsame_Txt {l l2 : List ByteArray} {p p2 : Option Addr} {m m2 c c2 : Nat} {w : World} (hl : Hid (Rw 1 RTxt (Lo w.heap.size) w l p m)) (hl2 : Hid (Rw 1 RTxt (Lo w.heap.size) w l2 p2 m2)) :
 Calls Tryz.prog 91 #[.slice p m c, .slice p2 m2 c2] w (Gives (.bool (eqB txB l l2)) w) := by
 obtain ⟨hlm, hm⟩ := hl.out.len
 obtain ⟨hlm2, hm2⟩ := hl2.out.len
 have HL := Lib.hid hlm
 have HL2 := Lib.hid hlm2
 have t3 : (m : Int) ≤ 9223372036854775807 := by omega
 by_cases hmm : m = m2
 rotate_left 1
 · have HN := Lib.hid (eqB_len (f := txB) (l := l) (m := l2) (by omega))
   have u1 : ((m : Int) == (m2 : Int)) = false := beq_eq_false_iff_ne.2 (by omega)
   have u2 : ((m : Int) != (m2 : Int)) = true := bne_iff_ne.2 (by omega)
   have u3 : (m == m2) = false := beq_eq_false_iff_ne.2 hmm
   have u4 : (m != m2) = true := bne_iff_ne.2 hmm
   clear hlm hm hlm2 hm2 t3
   go_enter Tryz.func91, Tryz.ntmps91
   go_wp2_with fail
   go_ret
   exact ⟨by rw [HN.out]; rfl, bl⟩
 subst hmm
 clear hlm hm hlm2 hm2
 go_enter Tryz.func91, Tryz.ntmps91
 go_wp2_with fail
 go_loopw [5] (fun i wr => ∃ k : Nat, k ≤ m ∧ i = .int .i64 (k : Nat) ∧ Hid (Below w.heap.size w wr) ∧ Hid (eqB txB (l.take k) (l2.take k) = true)) (fun i _ => m - (intOf i).toNat)
 case atStart => exact ⟨0, Nat.zero_le _, rfl, Lib.hid (Below.refl _ _), Lib.hid rfl⟩
 case round =>
  obtain ⟨k, hk, rfl, HW, HA⟩ := hrel
  have k0 : (0 : Int) ≤ (k : Int) := by omega
  rcases Nat.lt_or_ge k m with h | h
  · have k1 : (k : Int) < (m : Int) := by omega
    have hkl : k < l.length := by rw [HL.out]; exact h
    have hkl2 : k < l2.length := by rw [HL2.out]; exact h
    have HX := Lib.hid (List.getElem?_eq_getElem hkl)
    have HX2 := Lib.hid (List.getElem?_eq_getElem hkl2)
    obtain ⟨b, o, rfl, hbG, hG, hcell⟩ := (hl.out.below RTxt.map HW.out).rows (by omega)
    obtain ⟨c, hcs, hat, hR⟩ := hcell.out k hkl
    obtain ⟨b2, o2, rfl, hbG2, hG2, hcell2⟩ := (hl2.out.below RTxt.map HW.out).rows (by omega)
    obtain ⟨d, hcs2, hat2, hR2⟩ := hcell2.out k hkl2
    have e1 := hat.get (r := 0) (v := .string l[k]) (by rw [hR]; rfl)
    have e2 := hat2.get (r := 0) (v := .string l2[k]) (by rw [hR2]; rfl)
    rw [show o + k * 1 + 0 = o + k by omega] at e1
    rw [show o2 + k * 1 + 0 = o2 + k by omega] at e2
    obtain ⟨x, hx⟩ : ∃ x, l[k] = x := ⟨_, rfl⟩
    obtain ⟨y, hy⟩ : ∃ y, l2[k] = y := ⟨_, rfl⟩
    rw [hx] at HX e1
    rw [hy] at HX2 e2
    clear hx hy
    clear hcell hcs hat hR hkl hcell2 hcs2 hat2 hR2 hkl2
    cases hr : txB x y
    · have H := Lib.hid (eqB_stop HX.out HX2.out hr)
      have q1 : (x.toList == y.toList) = false := by rw [tx_is]; exact hr
      exact zQRfsd_1
    · have H := Lib.hid (eqB_take HX.out HX2.out HA.out hr)
      have q1 : (x.toList == y.toList) = true := by rw [tx_is]; exact hr
      exact zQRfsd_0
  · obtain rfl : m = k := by omega
    have HT := Lib.hid (show eqB txB l l2 = true by have h1 := HA.out; rwa [List.take_of_length_le (by rw [HL.out]; exact Nat.le_refl _), List.take_of_length_le (by rw [HL2.out]; exact Nat.le_refl _)] at h1)
    go_wp2_with fail
    go_ret
    exact ⟨ret_bool HT.out.symm, HW.out⟩
end Go.Proofs.YtaaffmbnhjaebaaGreat.Md
namespace Go.Proofs.YtaaffmbnhjaebaaGreat.Md
open Go.RowKit
open Go.Proofs.YtaaffmbnhjaebaaGreat.Ex (Lo Gives ret_bool)
open Go.Proofs.YtaaffmbnhjaebaaGreat.Sm (Ints)
set_option maxHeartbeats 2000000
set_option linter.unusedVariables false
set_option maxRecDepth 100000 in
theorem rsame_Int {l l2 : List Int} {p p2 : Option Addr} {m m2 c c2 : Nat} {w : World} (hl : Hid (Ints (Lo w.heap.size) w l p m)) (hl2 : Hid (Ints (Lo w.heap.size) w l2 p2 m2)) :
 Calls Tryz.prog 95 #[.slice p m c, .slice p2 m2 c2] w (Gives (.bool (eqB inB l l2)) w) := by
 obtain ⟨hlm, hm, -⟩ := hl.out
 obtain ⟨hlm2, hm2, -⟩ := hl2.out
 have HL := Lib.hid hlm
 have HL2 := Lib.hid hlm2
 have t3 : (m : Int) ≤ 9223372036854775807 := by omega
 by_cases hmm : m = m2
 rotate_left 1
 · have HN := Lib.hid (eqB_len (f := inB) (l := l) (m := l2) (by omega))
   have u1 : ((m : Int) == (m2 : Int)) = false := beq_eq_false_iff_ne.2 (by omega)
   have u2 : ((m : Int) != (m2 : Int)) = true := bne_iff_ne.2 (by omega)
   have u3 : (m == m2) = false := beq_eq_false_iff_ne.2 hmm
   have u4 : (m != m2) = true := bne_iff_ne.2 hmm
   clear hlm hm hlm2 hm2 t3
   go_enter Tryz.func95, Tryz.ntmps95
   go_wp2_with fail
   go_ret
   exact ⟨by rw [HN.out]; rfl, bl⟩
 subst hmm
 clear hlm hm hlm2 hm2
 go_enter Tryz.func95, Tryz.ntmps95
 go_wp2_with fail
 go_loopw [5] (fun i wr => ∃ k : Nat, k ≤ m ∧ i = .int .i64 (k : Nat) ∧ Hid (Below w.heap.size w wr) ∧ Hid (eqB inB (l.take k) (l2.take k) = true)) (fun i _ => m - (intOf i).toNat)
 case atStart => exact ⟨0, Nat.zero_le _, rfl, Lib.hid (Below.refl _ _), Lib.hid rfl⟩
 case round =>
  obtain ⟨k, hk, rfl, HW, HA⟩ := hrel
  have k0 : (0 : Int) ≤ (k : Int) := by omega
  rcases Nat.lt_or_ge k m with h | h
  · have k1 : (k : Int) < (m : Int) := by omega
    have hkl : k < l.length := by rw [HL.out]; exact h
    have hkl2 : k < l2.length := by rw [HL2.out]; exact h
    have HX := Lib.hid (List.getElem?_eq_getElem hkl)
    have HX2 := Lib.hid (List.getElem?_eq_getElem hkl2)
    obtain ⟨b, o, rfl, hbG, hG, hc⟩ := (Ints.on HW.out hl.out).2.2.resolve_left (by omega)
    obtain ⟨b2, o2, rfl, hbG2, hG2, hc2⟩ := (Ints.on HW.out hl2.out).2.2.resolve_left (by omega)
    have e1 := hc.out k hkl
    have e2 := hc2.out k hkl2
    obtain ⟨x, hx⟩ : ∃ x, l[k] = x := ⟨_, rfl⟩
    obtain ⟨y, hy⟩ : ∃ y, l2[k] = y := ⟨_, rfl⟩
    rw [hx] at HX e1
    rw [hy] at HX2 e2
    clear hx hy
    clear hc hc2 hkl hkl2
    cases hr : inB x y
    · have H := Lib.hid (eqB_stop HX.out HX2.out hr)
      have qx : ¬ x = y := of_decide_eq_false hr
      have q1 : (x == y) = false := beq_eq_false_iff_ne.2 qx
      have q2 : (x != y) = true := bne_iff_ne.2 qx
      clear hr
      go_wp2_with fail
      go_quiet (fail)
      go_wp2_with fail
      go_ret
      exact ⟨ret_bool H.out.symm, by have HBB := HW.out; exact bl⟩
    · have H := Lib.hid (eqB_take HX.out HX2.out HA.out hr)
      have qx : x = y := of_decide_eq_true hr
      have q1 : (x == y) = true := beq_iff_eq.2 qx
      have q2 : (x != y) = false := by rw [bne, q1]; rfl
      clear hr
      go_wp2_with fail
      go_quiet (fail)
      go_wp2_with fail
      go_roundw
      case rel => exact ⟨k + 1, by omega, by go_num, Lib.hid (by have HBB := HW.out; exact bl), H⟩
      case measure => simp [intOf]; omega
  · obtain rfl : m = k := by omega
    have HT := Lib.hid (show eqB inB l l2 = true by have h1 := HA.out; rwa [List.take_of_length_le (by rw [HL.out]; exact Nat.le_refl _), List.take_of_length_le (by rw [HL2.out]; exact Nat.le_refl _)] at h1)
    go_wp2_with fail
    go_ret
    exact ⟨ret_bool HT.out.symm, HW.out⟩
end Go.Proofs.YtaaffmbnhjaebaaGreat.Md
namespace Go.Proofs.YtaaffmbnhjaebaaGreat.Ex
open Go.RowKit
open Go.Proofs.YtaaffmbnhjaebaaGreat.Na (bs)
set_option maxHeartbeats 2000000
set_option linter.unusedVariables false
set_option maxRecDepth 100000 in
theorem rsame_all (l : List Ex) (ih : ∀ x ∈ l, ∀ (y : Ex) (p : Option Addr) (m c : Nat) (p2 : Option Addr) (m2 c2 : Nat) (w : World), In w x p m → In w y p2 m2 → Calls Tryz.prog 129 #[.agg #[.int .i64 x.o, .string x.s, .int .i64 x.n, .slice p m c], .agg #[.int .i64 y.o, .string y.s, .int .i64 y.n, .slice p2 m2 c2]] w (Gives (.bool (same x y)) w))
 (l2 : List Ex) (p : Option Addr) (m c : Nat) (p2 : Option Addr) (m2 c2 : Nat) (w : World) (h : In w (.mk 0 nE 0 l) p m) (h2 : In w (.mk 0 nE 0 l2) p2 m2) :
 Calls Tryz.prog 148 #[.slice p m c, .slice p2 m2 c2] w (Gives (.bool (sameL l l2)) w) := by
 have HH := Lib.hid h
 have HH2 := Lib.hid h2
 have HI := Lib.hid ih
 obtain ⟨hl, hm⟩ := h.len
 obtain ⟨hl2, hm2⟩ := h2.len
 have HL := Lib.hid hl
 have HL2 := Lib.hid hl2
 clear ih h h2 hl hl2
 by_cases hmm : m = m2
 · subst hmm
   go_enter Tryz.func148, Tryz.ntmps148
   go_wp2_with fail
   go_loopw [5] (fun i wr => ∃ k : Nat, k ≤ m ∧ Hid (l.take k = l2.take k) ∧ i = .int .i64 (k : Nat) ∧ Hid (Below w.heap.size w wr)) (fun i _ => m - (intOf i).toNat)
   case atStart => exact ⟨0, Nat.zero_le _, Lib.hid rfl, rfl, Lib.hid bl⟩
   case round =>
    obtain ⟨k, hk, HT0, rfl, HW⟩ := hrel
    have k0 : (0 : Int) ≤ (k : Int) := by omega
    rcases Nat.lt_or_ge k m with h | h
    · have k1 : (k : Int) < (m : Int) := by omega
      obtain ⟨b, o', rfl, -, hG, hcell⟩ := HH.out.kids (by omega)
      have hkl : k < l.length := by rw [HL.out]; omega
      obtain ⟨q, j, c', hc4, hkin⟩ := hcell.out k hkl
      have hmem : l[k] ∈ l := List.getElem_mem hkl
      have hgx : l[k]? = some l[k] := List.getElem?_eq_getElem hkl
      obtain ⟨x, hx⟩ : ∃ x, l[k] = x := ⟨_, rfl⟩
      rw [hx] at hc4 hkin hmem hgx
      obtain ⟨e0, e1, e2, e3⟩ := hc4.on HW.out hG
      have HKIN := Lib.hid hkin
      have HX := Lib.hid hgx
      have HM := Lib.hid hmem
      clear hcell hc4 hkin hx hmem hgx hkl
      obtain ⟨b', o'', rfl, -, hG', hcell'⟩ := HH2.out.kids (by omega)
      have hkl2 : k < l2.length := by rw [HL2.out]; omega
      obtain ⟨q', j', c'', hc4', hkin'⟩ := hcell'.out k hkl2
      have hmem2 : l2[k] ∈ l2 := List.getElem_mem hkl2
      have hgx2 : l2[k]? = some l2[k] := List.getElem?_eq_getElem hkl2
      obtain ⟨y, hy⟩ : ∃ y, l2[k] = y := ⟨_, rfl⟩
      rw [hy] at hc4' hkin' hmem2 hgx2
      obtain ⟨f0, f1, f2, f3⟩ := hc4'.on HW.out hG'
      have HKIN2 := Lib.hid hkin'
      have HX2 := Lib.hid hgx2
      have HM2 := Lib.hid hmem2
      clear hcell' hc4' hkin' hy hmem2 hgx2 hkl2
      have HS := Lib.hid (sameL_stop HX.out HX2.out)
      have HE := Lib.hid (take_same HX.out HX2.out)
      have HI1 := Lib.hid (fun W => HI.out x HM.out y q j c' q' j' c'' W)
      obtain ⟨E, hE⟩ : ∃ E, same x y = E := ⟨_, rfl⟩
      rw [hE] at HI1 HS HE
      clear hE
      have hb1 : b' < wr.heap.size := Nat.lt_of_lt_of_le hG' HW.out.size
      go_wp2_with fail
      go_region_with (go_at_call 129; refine (HI1.out _ (HKIN.out.on (by have HBB := HW.out; exact bl)) (HKIN2.out.on (by have HBB := HW.out; exact bl))).mono ?_; rintro e w2 ⟨rfl, hb2⟩)
      all_goals
       have HW2 : Hid (Below w.heap.size w w2) := Lib.hid (by have HBB := HW.out; exact bl)
       clear hb2 HI1
       cases E with
       | true =>
        have HR := Lib.hid (HE.out rfl HT0.out)
        go_wp2_with fail
        go_roundw
        case rel => exact ⟨k + 1, by omega, HR, by go_num, HW2⟩
        case measure => simp [intOf]; omega
       | false =>
        have HR := Lib.hid (HS.out rfl)
        go_wp2_with fail
        go_ret
        exact ⟨by rw [HR.out]; rfl, HW2.out⟩
    · obtain rfl : m = k := by omega
      have HR : Hid (sameL l l2 = true) := Lib.hid (by
       have h1 := HT0.out
       rw [List.take_of_length_le (by rw [HL.out]; exact Nat.le_refl _), List.take_of_length_le (by rw [HL2.out]; exact Nat.le_refl _)] at h1
       rw [h1]
       exact sameL_self _)
      go_wp2_with fail
      go_ret
      exact ⟨by rw [HR.out]; rfl, HW.out⟩
 · rw [sameL_far (by rw [HL.out, HL2.out]; exact hmm)]
   have t1 : ((m : Int) == (m2 : Int)) = false := beq_eq_false_iff_ne.2 (by omega)
   have t2 : ((m : Int) != (m2 : Int)) = true := bne_iff_ne.2 (by omega)
   clear hmm
   go_enter Tryz.func148, Tryz.ntmps148
   go_wp2_with fail
   go_ret
   exact ⟨rfl, bl⟩
theorem zERSamed_0 {p : Prop} (h : p := by
 go_enter Tryz.func129, Tryz.ntmps129
 go_wp2_with fail
 go_ret
 exact ⟨rfl, bl⟩
 ) : p := h
set_option maxRecDepth 100000 in
theorem rsame_any (e : Ex) : ∀ (y : Ex) (p : Option Addr) (m c : Nat) (p2 : Option Addr) (m2 c2 : Nat) (w : World), In w e p m → In w y p2 m2 → Calls Tryz.prog 129 #[.agg #[.int .i64 e.o, .string e.s, .int .i64 e.n, .slice p m c], .agg #[.int .i64 y.o, .string y.s, .int .i64 y.n, .slice p2 m2 c2]] w (Gives (.bool (same e y)) w) := by
 induction e using Ex.ind with
 | h o s n l ih =>
  intro y p m c p2 m2 c2 w h h2
  obtain ⟨o2, s2, n2, l2⟩ := y
  have HE := Lib.hid fun W => rsame_all l ih l2 p m c p2 m2 c2 W
  have HH := Lib.hid (h.any (o2 := 0) (n2 := 0) (s2 := nE))
  have HH2 := Lib.hid (h2.any (o2 := 0) (n2 := 0) (s2 := nE))
  rw [same_one]
  simp only [Ex.o, Ex.s, Ex.n]
  clear h h2 ih
  by_cases t1 : o = o2
  · by_cases t2 : bs s = bs s2
    · by_cases t3 : n = n2
      · rw [decide_eq_true t1, decide_eq_true t2, decide_eq_true t3, Bool.true_and, Bool.true_and, Bool.true_and]
        have u2 := eq_yes t2
        subst t1 t3
        clear t2
        obtain ⟨E, hE⟩ : ∃ E, sameL l l2 = E := ⟨_, rfl⟩
        rw [hE] at HE ⊢
        clear hE
        go_enter Tryz.func129, Tryz.ntmps129
        go_wp2_with fail
        refine (HE.out _ (HH.out.on bl) (HH2.out.on bl)).mono ?_
        rintro e w2 ⟨rfl, hb2⟩
        go_wp2_with fail
        go_ret
        exact ⟨rfl, bl⟩
      · rw [decide_eq_true t1, decide_eq_true t2, decide_eq_false t3, Bool.true_and, Bool.true_and, Bool.false_and]
        have u2 := eq_yes t2
        subst t1
        clear t2
        exact zERSamed_0
    · rw [decide_eq_true t1, decide_eq_false t2, Bool.true_and, Bool.false_and, Bool.false_and]
      have u2 := eq_no t2
      subst t1
      clear t2
      exact zERSamed_0
  · rw [decide_eq_false t1, Bool.false_and, Bool.false_and, Bool.false_and]
    exact zERSamed_0
end Go.Proofs.YtaaffmbnhjaebaaGreat.Ex
namespace Go.Proofs.YtaaffmbnhjaebaaGreat.Sm
open Go.RowKit
open Go.Proofs.YtaaffmbnhjaebaaGreat.Ex (Ex In Gives)
attribute [local go_sem] cs0 cs1 cs2 cs3 cs4 cs5 cs6 cs7 cs8 cs9 cs10 cs11 cs12 cs13 cs14 cs15 cs16 cs17 cs18 cs19 cs20
set_option maxHeartbeats 2000000
set_option linter.unusedVariables false
set_option maxRecDepth 100000 in
theorem rexprs_any (l : List Ex)
 (l2 : List Ex) (p : Option Addr) (m c : Nat) (p2 : Option Addr) (m2 c2 : Nat) (w : World) (h : In w (.mk 0 nE 0 l) p m) (h2 : In w (.mk 0 nE 0 l2) p2 m2) :
 Calls Tryz.prog 130 #[.slice p m c, .slice p2 m2 c2] w (Gives (.bool (Ex.sameL l l2)) w) := by
 have HH := Lib.hid h
 have HH2 := Lib.hid h2
 obtain ⟨hl, hm⟩ := h.len
 obtain ⟨hl2, hm2⟩ := h2.len
 have HL := Lib.hid hl
 have HL2 := Lib.hid hl2
 clear h h2 hl hl2
 by_cases hmm : m = m2
 · subst hmm
   go_enter Tryz.func130, Tryz.ntmps130
   go_wp2_with fail
   go_loopw [5] (fun i wr => ∃ k : Nat, k ≤ m ∧ Hid (l.take k = l2.take k) ∧ i = .int .i64 (k : Nat) ∧ Hid (Below w.heap.size w wr)) (fun i _ => m - (intOf i).toNat)
   case atStart => exact ⟨0, Nat.zero_le _, Lib.hid rfl, rfl, Lib.hid bl⟩
   case round =>
    obtain ⟨k, hk, HT0, rfl, HW⟩ := hrel
    have k0 : (0 : Int) ≤ (k : Int) := by omega
    rcases Nat.lt_or_ge k m with h | h
    · have k1 : (k : Int) < (m : Int) := by omega
      obtain ⟨b, o', rfl, -, hG, hcell⟩ := HH.out.kids (by omega)
      have hkl : k < l.length := by rw [HL.out]; omega
      obtain ⟨q, j, c', hc4, hkin⟩ := hcell.out k hkl
      have hmem : l[k] ∈ l := List.getElem_mem hkl
      have hgx : l[k]? = some l[k] := List.getElem?_eq_getElem hkl
      obtain ⟨x, hx⟩ : ∃ x, l[k] = x := ⟨_, rfl⟩
      rw [hx] at hc4 hkin hmem hgx
      obtain ⟨e0, e1, e2, e3⟩ := hc4.on HW.out hG
      have HKIN := Lib.hid hkin
      have HX := Lib.hid hgx
      have HM := Lib.hid hmem
      clear hcell hc4 hkin hx hmem hgx hkl
      obtain ⟨b', o'', rfl, -, hG', hcell'⟩ := HH2.out.kids (by omega)
      have hkl2 : k < l2.length := by rw [HL2.out]; omega
      obtain ⟨q', j', c'', hc4', hkin'⟩ := hcell'.out k hkl2
      have hmem2 : l2[k] ∈ l2 := List.getElem_mem hkl2
      have hgx2 : l2[k]? = some l2[k] := List.getElem?_eq_getElem hkl2
      obtain ⟨y, hy⟩ : ∃ y, l2[k] = y := ⟨_, rfl⟩
      rw [hy] at hc4' hkin' hmem2 hgx2
      obtain ⟨f0, f1, f2, f3⟩ := hc4'.on HW.out hG'
      have HKIN2 := Lib.hid hkin'
      have HX2 := Lib.hid hgx2
      have HM2 := Lib.hid hmem2
      clear hcell' hc4' hkin' hy hmem2 hgx2 hkl2
      have HS := Lib.hid (Ex.sameL_stop HX.out HX2.out)
      have HE := Lib.hid (Ex.take_same HX.out HX2.out)
      have HI1 := Lib.hid (fun W => Ex.rsame_any x y q j c' q' j' c'' W)
      obtain ⟨E, hE⟩ : ∃ E, Ex.same x y = E := ⟨_, rfl⟩
      rw [hE] at HI1 HS HE
      clear hE
      have hb1 : b' < wr.heap.size := Nat.lt_of_lt_of_le hG' HW.out.size
      go_wp2_with fail
      go_region_with (go_at_call 129; refine (HI1.out _ (HKIN.out.on (by have HBB := HW.out; exact bl)) (HKIN2.out.on (by have HBB := HW.out; exact bl))).mono ?_; rintro e w2 ⟨rfl, hb2⟩)
      all_goals
       have HW2 : Hid (Below w.heap.size w w2) := Lib.hid (by have HBB := HW.out; exact bl)
       clear hb2 HI1
       cases E with
       | true =>
        have HR := Lib.hid (HE.out rfl HT0.out)
        go_wp2_with fail
        go_roundw
        case rel => exact ⟨k + 1, by omega, HR, by go_num, HW2⟩
        case measure => simp [intOf]; omega
       | false =>
        have HR := Lib.hid (HS.out rfl)
        go_wp2_with fail
        go_ret
        exact ⟨by rw [HR.out]; rfl, HW2.out⟩
    · obtain rfl : m = k := by omega
      have HR : Hid (Ex.sameL l l2 = true) := Lib.hid (by
       have h1 := HT0.out
       rw [List.take_of_length_le (by rw [HL.out]; exact Nat.le_refl _), List.take_of_length_le (by rw [HL2.out]; exact Nat.le_refl _)] at h1
       rw [h1]
       exact Ex.sameL_self _)
      go_wp2_with fail
      go_ret
      exact ⟨by rw [HR.out]; rfl, HW.out⟩
 · rw [Ex.sameL_far (by rw [HL.out, HL2.out]; exact hmm)]
   have t1 : ((m : Int) == (m2 : Int)) = false := beq_eq_false_iff_ne.2 (by omega)
   have t2 : ((m : Int) != (m2 : Int)) = true := bne_iff_ne.2 (by omega)
   clear hmm
   go_enter Tryz.func130, Tryz.ntmps130
   go_wp2_with fail
   go_ret
   exact ⟨rfl, bl⟩
end Go.Proofs.YtaaffmbnhjaebaaGreat.Sm
namespace Go.Proofs.YtaaffmbnhjaebaaGreat.Sm
open Go.RowKit
open Go.Proofs.YtaaffmbnhjaebaaGreat.Na (bs)
open Go.Proofs.YtaaffmbnhjaebaaGreat.Ex (Ex Gives bl_drew bl_call eq_yes eq_no)
attribute [local go_sem] cs0 cs1 cs2 cs3 cs4 cs5 cs6 cs7 cs8 cs9 cs10 cs11 cs12 cs13 cs14 cs15 cs16 cs17 cs18 cs19 cs20
set_option maxHeartbeats 4000000
set_option linter.unusedVariables false
theorem rdsame_any {w : World} {x y : St} {P Q : Pl} (hx : SIn w x P) (hy : SIn w y Q) : Calls Tryz.prog 128 #[.agg #[.int .i64 x.di.op, .int .i64 x.di.a, .int .i64 x.di.b, .int .i64 x.di.n, .slice P.vp P.vm P.vc, .slice P.wp P.wm P.wc], .agg #[.int .i64 y.di.op, .int .i64 y.di.a, .int .i64 y.di.b, .int .i64 y.di.n, .slice Q.vp Q.vm Q.vc, .slice Q.wp Q.wm Q.wc]] w (Gives (.bool (sameDt x.di y.di)) w) := by
 have h := Di.rsame_any x.di.op x.di.a x.di.b x.di.n P.vp x.di.vs.length P.vc P.wp x.di.ws.length P.wc _ _ y.di.op y.di.a y.di.b y.di.n Q.vp y.di.vs.length Q.vc Q.wp y.di.ws.length Q.wc _ _ w hx.vs hx.ws hy.vs hy.ws
 rw [sameD_list, hx.vlen, hx.wlen, hy.vlen, hy.wlen] at h
 exact h
def BoxCut (wr : World) (x y : St) (P Q : Pl) (a b : Value) (wc : World) : Prop := ∃ g1 g2 : Nat, a = .pointer (some ⟨g1, 0, none⟩) ∧ b = .pointer (some ⟨g2, 0, none⟩) ∧ box21 wc g1 x P ∧ box21 wc g2 y Q ∧ Below wr.heap.size wr wc
theorem setRow_prev (w : World) (c c' : Array Value) (t : TypeId) (o : Obj) : ((w.alloc (.cells c t)).alloc o).setRow w.heap.size c' = (w.alloc (.cells c' t)).alloc o := by
 simp only [World.setRow, World.alloc]
 congr 1
 apply Array.ext_getElem?
 intro i
 rw [Array.getElem?_modify]
 by_cases h : w.heap.size = i
 · subst h
   rw [if_pos rfl, Array.getElem?_push, Array.getElem?_push]
   simp [Array.getElem?_push]
 · have h' : ¬ i = w.heap.size := fun e => h e.symm
   simp [h, h', Array.getElem?_push]
theorem heap_prev (w : World) (a o : Obj) : ((w.alloc a).alloc o).heap[w.heap.size]? = some a := by
 show ((w.heap.push a).push o)[w.heap.size]? = some a
 simp [Array.getElem?_push]
theorem st_prevV (x : St) (P : Pl) (z : Array Value) (hz : z.size = 21) (W : World) (o : Obj) (B : Nat) (hB : W.heap.size = B) : (storeVar 173 ⟨B, 0, none⟩ (.agg (cs x P))).run Tryz.prog ((W.alloc (.cells z 173)).alloc o) = .ok () ((W.alloc (.cells (cs x P) 173)).alloc o) := by
 subst hB
 rw [run_storeVar_row _ _ 173 173 z (cs x P) (heap_prev _ _ _) (by rw [st_info]; rfl) hz (cs_one x P), setRow_prev]
theorem st_prevC (x : St) (P : Pl) (z : Array Value) (hz : z.size = 21) (W : World) (o : Obj) (B : Nat) (hB : W.heap.size = B) : (storeCells ⟨B, 0, none⟩ (cs x P).toList 0).run Tryz.prog ((W.alloc (.cells z 173)).alloc o) = .ok () ((W.alloc (.cells (cs x P) 173)).alloc o) := by
 have h := st_prevV x P z hz W o B hB
 obtain ⟨i0, hi0, hi1, hi2, hi3⟩ := parts_of' fld_info
 simpa [storeVar, sizeOf, typeInfo, hi0, Value.cells, hi2, cs_size] using h
theorem st_prevA (x : St) (P : Pl) (z : Array Value) (hz : z.size = 21) (W : World) (o : Obj) (B : Nat) (hB : W.heap.size = B) : (Instr.storeAt 173 (.pointer (some ⟨B, 0, none⟩)) (.agg (cs x P))).run Tryz.prog ((W.alloc (.cells z 173)).alloc o) = .ok () ((W.alloc (.cells (cs x P) 173)).alloc o) := by
 simp only [Instr.storeAt, Instr.sureAddr, Sem.run_bind, Sem.run_pure, Result.andThen]
 exact st_prevV x P z hz W o B hB
theorem st_prevDV (x : St) (P : Pl) (z : Array Value) (hz : z.size = 21) (W : World) (o : Obj) (B : Nat) (hB : W.heap.size = B) : (storeVar 173 ⟨B, 0, none⟩ (.agg (cs x P))).run Tryz.prog ((W.alloc (.cells z 173)).alloc o).drew = .ok () ((W.alloc (.cells (cs x P) 173)).alloc o).drew := st_prevV x P z hz W.drew o B hB
theorem st_anyDV (x : St) (P : Pl) (z : Array Value) (hz : z.size = 21) (W : World) (B : Nat) (hB : W.heap.size = B) : (storeVar 173 ⟨B, 0, none⟩ (.agg (cs x P))).run Tryz.prog (W.alloc (.cells z 173)).drew = .ok () (W.alloc (.cells (cs x P) 173)).drew := st_anyV x P z hz W.drew B hB
theorem st_prevDC (x : St) (P : Pl) (z : Array Value) (hz : z.size = 21) (W : World) (o : Obj) (B : Nat) (hB : W.heap.size = B) : (storeCells ⟨B, 0, none⟩ (cs x P).toList 0).run Tryz.prog ((W.alloc (.cells z 173)).alloc o).drew = .ok () ((W.alloc (.cells (cs x P) 173)).alloc o).drew := st_prevC x P z hz W.drew o B hB
theorem st_anyDC (x : St) (P : Pl) (z : Array Value) (hz : z.size = 21) (W : World) (B : Nat) (hB : W.heap.size = B) : (storeCells ⟨B, 0, none⟩ (cs x P).toList 0).run Tryz.prog (W.alloc (.cells z 173)).drew = .ok () (W.alloc (.cells (cs x P) 173)).drew := st_anyC x P z hz W.drew B hB
theorem st_prevDA (x : St) (P : Pl) (z : Array Value) (hz : z.size = 21) (W : World) (o : Obj) (B : Nat) (hB : W.heap.size = B) : (Instr.storeAt 173 (.pointer (some ⟨B, 0, none⟩)) (.agg (cs x P))).run Tryz.prog ((W.alloc (.cells z 173)).alloc o).drew = .ok () ((W.alloc (.cells (cs x P) 173)).alloc o).drew := st_prevA x P z hz W.drew o B hB
theorem st_anyDA (x : St) (P : Pl) (z : Array Value) (hz : z.size = 21) (W : World) (B : Nat) (hB : W.heap.size = B) : (Instr.storeAt 173 (.pointer (some ⟨B, 0, none⟩)) (.agg (cs x P))).run Tryz.prog (W.alloc (.cells z 173)).drew = .ok () (W.alloc (.cells (cs x P) 173)).drew := st_anyA x P z hz W.drew B hB
theorem two_new (w : World) (x y : St) (P Q : Pl) : box21 ((w.alloc (.cells (cs x P) 173)).alloc (.cells (cs y Q) 173)).drew w.heap.size x P ∧ box21 ((w.alloc (.cells (cs x P) 173)).alloc (.cells (cs y Q) 173)).drew (w.heap.size + 1) y Q := (two_far (w := w) x y P Q).out _ (bl_drew (Below.refl _ _))
theorem zPRSame2d_0 {p : Prop} (h : p := by
 go_wp2_with fail
 go_ret
 exact ⟨by first | (rw [HR.out]; rfl) | (simp [HR.out]; done), by with_reducible first | exact HWC.out | exact HWL.out⟩
 ) : p := h
theorem zPRSame2d_1 {p : Prop} (h : p := by
 have HR := Lib.hid (HS.out (by simp))
 exact zPRSame2d_0
 ) : p := h
theorem zPRSame2d_2 {p : Prop} (h : p := by have h1 := HWC.out; exact bl) : p := h
set_option maxRecDepth 100000 in
theorem rsameS_any (sl : List St) : SameC 94 sl := by
 induction sl using lst_ind with
 | h sl ih =>
  intro l2 p m c p2 m2 c2 w h h2
  have HH := Lib.hid h
  have HH2 := Lib.hid h2
  have HI := Lib.hid ih
  obtain ⟨hl, hm⟩ := h.len
  obtain ⟨hl2, hm2⟩ := h2.len
  have HL := Lib.hid hl
  have HL2 := Lib.hid hl2
  clear ih h h2 hl hl2
  by_cases hmm : m = m2
  · subst hmm
    obtain ⟨n21, hn21⟩ : ∃ n : Nat, 21 = n := ⟨_, rfl⟩
    have hsz : ∀ w, (sizeOf 173).run Tryz.prog w = .ok n21 w := fun w => by rw [Tryz.sizeOf173, hn21]
    have HN21 := Lib.hid hn21
    clear hn21
    go_enter Tryz.func94, Tryz.ntmps94
    go_wp2_with fail
    go_loopw [5] (fun i wr => ∃ k : Nat, k ≤ m ∧ Hid (sl.take k = l2.take k) ∧ i = .int .i64 (k : Nat) ∧ Hid (Below w.heap.size w wr)) (fun i _ => m - (intOf i).toNat)
    case atStart => exact ⟨0, Nat.zero_le _, Lib.hid rfl, rfl, Lib.hid bl⟩
    case round =>
     obtain ⟨k, hk, HT0, rfl, HW⟩ := hrel
     have k0 : (0 : Int) ≤ (k : Int) := by omega
     rcases Nat.lt_or_ge k m with h | h
     · have k1 : (k : Int) < (m : Int) := by omega
       obtain ⟨b, o', rfl, -, hG, hcell⟩ := HH.out.rows (by omega)
       have hkl : k < sl.length := by rw [HL.out]; omega
       obtain ⟨P, hc21, hsin⟩ := hcell.out k hkl
       have hmem : sl[k] ∈ sl := List.getElem_mem hkl
       have hgx : sl[k]? = some sl[k] := List.getElem?_eq_getElem hkl
       obtain ⟨x, hx⟩ : ∃ x, sl[k] = x := ⟨_, rfl⟩
       rw [hx] at hc21 hsin hmem hgx
       have HSIN := Lib.hid hsin
       have HX := Lib.hid hgx
       have HM := Lib.hid hmem
       have hcw := (hc21.on HW.out hG).at HN21.out
       have hbr : b < wr.heap.size := Nat.lt_of_lt_of_le hG HW.out.size
       have hcsz : (cs x P).size = n21 := HN21.out
       have ld1 := (hcw).ldN HN21.out
       have ld2 := (hcw).loadVar
       have ld3 := (hcw).loadAt
       have st1 := st_store x P
       have st2 := st_storeVar x P
       have st3 := st_storeAt x P
       have HCW := Lib.hid hcw
       clear hcell hc21 hsin hx hmem hgx hkl hcw
       obtain ⟨b2, o2, rfl, -, hG2, hcell2⟩ := HH2.out.rows (by omega)
       have hkl2 : k < l2.length := by rw [HL2.out]; omega
       obtain ⟨Q, hcy, hsy⟩ := hcell2.out k hkl2
       have hgy : l2[k]? = some l2[k] := List.getElem?_eq_getElem hkl2
       obtain ⟨y, hy⟩ : ∃ y, l2[k] = y := ⟨_, rfl⟩
       rw [hy] at hcy hsy hgy
       have hcyw := (hcy.on HW.out hG2).at HN21.out
       have hbr2 : b2 < wr.heap.size := Nat.lt_of_lt_of_le hG2 HW.out.size
       have hcsz2 : (cs y Q).size = n21 := HN21.out
       have hb1w : b < wr.heap.size := hbr
       have FL : Hid (∀ W, Below wr.heap.size wr W → (loadCellsFrom ⟨b, o' + k * n21, none⟩ 0 n21 #[]).run Tryz.prog W = .ok (cs x P) W ∧ (loadCellsFrom ⟨b2, o2 + k * n21, none⟩ 0 n21 #[]).run Tryz.prog W = .ok (cs y Q) W) := Lib.hid fun W hb => ⟨(HCW.out.on hb hbr).ldN HN21.out, (hcyw.on hb hbr2).ldN HN21.out⟩
       have sp1 := st_anyC
       have sp2 := st_anyV
       have sp3 := st_anyA
       have sp4 := st_prevC
       have sp5 := st_prevV
       have sp6 := st_prevA
       have sp7 := st_prevDC
       have sp8 := st_prevDV
       have sp9 := st_prevDA
       have sq7 := st_anyDC
       have sq8 := st_anyDV
       have sq9 := st_anyDA
       clear ld1 ld2 ld3 st1 st2 st3
       have HSY := Lib.hid hsy
       have HS := Lib.hid (sameSL_stop HX.out hgy)
       have HE := Lib.hid (takeS_same HX.out hgy)
       have HI1 := Lib.hid (HI.out x HM.out).1
       have HI2 := Lib.hid (HI.out x HM.out).2
       clear hcell2 hkl2 hcy hsy hgy hy hcyw
       go_upto_region 6 with fail
       go_cut [6, 7] from 13 to 98 (BoxCut wr x y P Q)
       case first =>
        go_region_held3 (fun w' => (loadCellsFrom ⟨b, o' + k * n21, none⟩ 0 n21 #[]).run Tryz.prog w' = .ok (cs x P) w' ∧ (loadCellsFrom ⟨b2, o2 + k * n21, none⟩ 0 n21 #[]).run Tryz.prog w' = .ok (cs y Q) w') (first | (refine FL.out _ ?_; exact bl; done) | (go_keep; done)) (fail)
        all_goals
         go_wp2_with fail
         go_meet
         first
          | exact ⟨_, _, rfl, rfl, (two_new wr x y P Q).1, (two_new wr x y P Q).2, bl⟩
          | exact ⟨_, _, rfl, rfl, (two_new wr y x Q P).2, (two_new wr y x Q P).1, bl⟩
       case rest =>
        obtain ⟨g1, g2, rfl, rfl, B1, B2, hBc⟩ := hcut
        rename_i wc
        have FX : Hid (∀ W, Below wc.heap.size wc W → box21 W g1 x P ∧ box21 W g2 y Q) := Lib.hid fun W hb => ⟨B1.on hb, B2.on hb⟩
        have HWC : Hid (Below w.heap.size w wc) := Lib.hid (by have h1 := HW.out; exact bl)
        have HXS : Hid (∀ W, Below wc.heap.size wc W → SIn W x P ∧ SIn W y Q) := Lib.hid fun W hb => by
         have hbb : Below w.heap.size w W := bl_call HWC.out hb
         exact ⟨HSIN.out.on hbb, HSY.out.on hbb⟩
        clear B1 B2 hBc sp1 sp2 sp3 sp4 sp5 sp6 sp7 sp8 sp9 sq7 sq8 sq9 FL hcsz hcsz2 HCW hbr hbr2 hb1w
        have q := FX.out wc (Below.refl _ _)
        have c0 := q.1.c0; have c1 := q.1.c1; have c2 := q.1.c2; have c18 := q.1.c18; have c3 := q.1.c3; have c4 := q.1.c4; have c5 := q.1.c5; have c6 := q.1.c6
        have d0 := q.2.c0; have d1 := q.2.c1; have d2 := q.2.c2; have d18 := q.2.c18; have d3 := q.2.c3; have d4 := q.2.c4; have d5 := q.2.c5; have d6 := q.2.c6
        clear q
        by_cases t1 : x.o = y.o
        case neg =>
         have u := (show (x.o == y.o) = false from beq_eq_false_iff_ne.2 t1)
         have v1 : (x.o != y.o) = true := bne_iff_ne.2 t1
         have HR := Lib.hid (HS.out (sameS_no (by unfold same0; rw [decide_eq_false t1]; simp)))
         exact zPRSame2d_0
        have u1 : (x.o == y.o) = true := beq_iff_eq.2 t1
        have v1 : (x.o != y.o) = false := by rw [t1]; simp
        by_cases t2 : bs x.nm = bs y.nm
        case neg =>
         have u := eq_no t2
         have v2 := u
         have HR := Lib.hid (HS.out (sameS_no (by unfold same0; rw [decide_eq_false t2]; simp)))
         exact zPRSame2d_0
        have u2 := eq_yes t2
        by_cases t3 : bs x.f = bs y.f
        case neg =>
         have u := eq_no t3
         have v3 := u
         have HR := Lib.hid (HS.out (sameS_no (by unfold same0; rw [decide_eq_false t3]; simp)))
         exact zPRSame2d_0
        have u3 := eq_yes t3
        cases t4 : (x.fl == y.fl) with
        | false =>
         have v4 : (x.fl != y.fl) = true := by unfold bne; rw [t4]; rfl
         have HR := Lib.hid (HS.out (sameS_no (by unfold same0; rw [t4]; simp)))
         exact zPRSame2d_0
        | true =>
        have v4 : (x.fl != y.fl) = false := by unfold bne; rw [t4]; rfl
        have e : sameS x y = (Ex.same x.e y.e && Ex.same x.g y.g && Ex.sameL x.ar y.ar && sameDt x.di y.di && sameSL x.bo y.bo && sameSL x.el y.el) := by rw [sameS_one]; unfold same0; rw [decide_eq_true t1, decide_eq_true t2, decide_eq_true t3, t4]; simp only [Bool.true_and]
        rw [e] at HS HE
        have C1 := Lib.hid (fun W (hb : Below wc.heap.size wc W) => Ex.rsame_any x.e y.e P.ep P.em P.ec Q.ep Q.em Q.ec W (HXS.out W hb).1.e (HXS.out W hb).2.e)
        have C2 := Lib.hid (fun W (hb : Below wc.heap.size wc W) => Ex.rsame_any x.g y.g P.gp P.gm P.gc Q.gp Q.gm Q.gc W (HXS.out W hb).1.g (HXS.out W hb).2.g)
        have C3 := Lib.hid (fun W (hb : Below wc.heap.size wc W) => rexprs_any x.ar y.ar P.ap P.am P.ac Q.ap Q.am Q.ac W (HXS.out W hb).1.ar (HXS.out W hb).2.ar)
        have C4 := Lib.hid (fun W (hb : Below wc.heap.size wc W) => rdsame_any (HXS.out W hb).1 (HXS.out W hb).2)
        have C5 := Lib.hid (fun W (hb : Below wc.heap.size wc W) => HI1.out y.bo P.bp P.bm P.bc Q.bp Q.bm Q.bc W (HXS.out W hb).1.bo (HXS.out W hb).2.bo)
        have C6 := Lib.hid (fun W (hb : Below wc.heap.size wc W) => HI2.out y.el P.lp P.lm P.lc Q.lp Q.lm Q.lc W (HXS.out W hb).1.el (HXS.out W hb).2.el)
        obtain ⟨b1, hb1⟩ : ∃ v, Ex.same x.e y.e = v := ⟨_, rfl⟩
        rw [hb1] at C1 HS HE
        obtain ⟨b2, hb2⟩ : ∃ v, Ex.same x.g y.g = v := ⟨_, rfl⟩
        rw [hb2] at C2 HS HE
        obtain ⟨b3, hb3⟩ : ∃ v, Ex.sameL x.ar y.ar = v := ⟨_, rfl⟩
        rw [hb3] at C3 HS HE
        obtain ⟨b4, hb4⟩ : ∃ v, sameDt x.di y.di = v := ⟨_, rfl⟩
        rw [hb4] at C4 HS HE
        obtain ⟨b5, hb5⟩ : ∃ v, sameSL x.bo y.bo = v := ⟨_, rfl⟩
        rw [hb5] at C5 HS HE
        obtain ⟨b6, hb6⟩ : ∃ v, sameSL x.el y.el = v := ⟨_, rfl⟩
        rw [hb6] at C6 HS HE
        clear hb1 hb2 hb3 hb4 hb5 hb6 e t1 t2 t3
        go_wp2_with fail
        clear c0 d0 c1 d1 c2 d2 c18 d18 c3 d3 c4 d4 c5 d5 c6 d6
        refine (C1.out _ bl).mono ?_
        rintro e w1 ⟨rfl, hw1⟩
        have HWL : Hid (Below w.heap.size w w1) := Lib.hid zPRSame2d_2
        cases b1 with
        | false =>
         exact zPRSame2d_1
        | true =>
        clear HWL
        have q := FX.out w1 bl
        have c7 := q.1.c7; have d7 := q.2.c7; have c8 := q.1.c8; have d8 := q.2.c8; have c9 := q.1.c9; have d9 := q.2.c9; have c10 := q.1.c10; have d10 := q.2.c10
        clear q
        go_wp2_with fail
        clear c7 d7 c8 d8 c9 d9 c10 d10
        refine (C2.out _ bl).mono ?_
        rintro e w2 ⟨rfl, hw2⟩
        have HWL : Hid (Below w.heap.size w w2) := Lib.hid zPRSame2d_2
        cases b2 with
        | false =>
         exact zPRSame2d_1
        | true =>
        clear HWL
        have q := FX.out w2 bl
        have c11 := q.1.c11; have d11 := q.2.c11
        clear q
        go_wp2_with fail
        clear c11 d11
        refine (C3.out _ bl).mono ?_
        rintro e w3 ⟨rfl, hw3⟩
        have HWL : Hid (Below w.heap.size w w3) := Lib.hid zPRSame2d_2
        cases b3 with
        | false =>
         exact zPRSame2d_1
        | true =>
        clear HWL
        have q := FX.out w3 bl
        have c12 := q.1.c12; have d12 := q.2.c12; have c13 := q.1.c13; have d13 := q.2.c13; have c14 := q.1.c14; have d14 := q.2.c14; have c15 := q.1.c15; have d15 := q.2.c15; have c16 := q.1.c16; have d16 := q.2.c16; have c17 := q.1.c17; have d17 := q.2.c17
        clear q
        go_wp2_with fail
        clear c12 d12 c13 d13 c14 d14 c15 d15 c16 d16 c17 d17
        refine (C4.out _ bl).mono ?_
        rintro e w4 ⟨rfl, hw4⟩
        have HWL : Hid (Below w.heap.size w w4) := Lib.hid zPRSame2d_2
        cases b4 with
        | false =>
         exact zPRSame2d_1
        | true =>
        clear HWL
        have q := FX.out w4 bl
        have c19 := q.1.c19; have d19 := q.2.c19
        clear q
        go_wp2_with fail
        clear c19 d19
        refine (C5.out _ bl).mono ?_
        rintro e w5 ⟨rfl, hw5⟩
        have HWL : Hid (Below w.heap.size w w5) := Lib.hid zPRSame2d_2
        cases b5 with
        | false =>
         exact zPRSame2d_1
        | true =>
        clear HWL
        have q := FX.out w5 bl
        have c20 := q.1.c20; have d20 := q.2.c20
        clear q
        go_wp2_with fail
        clear c20 d20
        refine (C6.out _ bl).mono ?_
        rintro e w6 ⟨rfl, hw6⟩
        have HWL : Hid (Below w.heap.size w w6) := Lib.hid zPRSame2d_2
        cases b6 with
        | false =>
         exact zPRSame2d_1
        | true =>
        have HR := Lib.hid (HE.out (by simp) HT0.out)
        go_wp2_with fail
        go_roundw
        case rel => exact ⟨k + 1, by omega, HR, by go_num, HWL⟩
        case measure => simp [intOf]; omega
     · obtain rfl : m = k := by omega
       have HR : Hid (sameSL sl l2 = true) := Lib.hid (by
        have h1 := HT0.out
        rw [List.take_of_length_le (by rw [HL.out]; exact Nat.le_refl _), List.take_of_length_le (by rw [HL2.out]; exact Nat.le_refl _)] at h1
        rw [h1]
        exact sameSL_self _)
       go_wp2_with fail
       go_ret
       exact ⟨by rw [HR.out]; rfl, HW.out⟩
  · rw [sameSL_len (by rw [HL.out, HL2.out]; exact hmm)]
    have t1 : ((m : Int) == (m2 : Int)) = false := beq_eq_false_iff_ne.2 (by omega)
    have t2 : ((m : Int) != (m2 : Int)) = true := bne_iff_ne.2 (by omega)
    clear hmm
    go_enter Tryz.func94, Tryz.ntmps94
    go_wp2_with fail
    go_ret
    exact ⟨rfl, bl⟩
end Go.Proofs.YtaaffmbnhjaebaaGreat.Sm
