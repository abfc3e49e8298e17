/-
  Parts of this proof: The contract of the reference's Check of a model. The law of Checks.
-/
import Derived.Test.YtaaffmbnhjaebaaGreatZQRdexa
import Derived.Test.YtaaffmbnhjaebaaGreatZQRlixa
import Derived.Test.YtaaffmbnhjaebaaGreatZQLw1xacde
namespace Go.Proofs.YtaaffmbnhjaebaaGreat.Md
open Go.RowKit Go.Maps
open Go.Proofs.YtaaffmbnhjaebaaGreat.Na (bs chk)
open Go.Proofs.YtaaffmbnhjaebaaGreat.Sm (cnL orE orE_zero orE_no orE_yes orE_assoc)
open Go.Proofs.YtaaffmbnhjaebaaGreat.Ex (Lo Gives block_lt)
attribute [local go_sem] cMdl0 cMdl1 cMdl2 cVal0
set_option maxHeartbeats 8000000
set_option linter.unusedVariables false
theorem mdl_unl (x : Mdl) : mdlE x = orE (orE (chk (bs x.nm)) (unl (decide (x.pa.length ≤ 32)) 6)) (orE (goE (fun a v => stepN a (valP v)) x.pa []).1 (orE (orE (unl (decide (0 < x.si.length)) 7) (unl (decide (x.si.length ≤ 16)) 6)) (orE (goE (fun a s => stepN a (siteP s)) x.si []).1 (lnksE x)))) := by
 unfold mdlE
 rw [orE_assoc]
 congr 1
 have h1 : parE x = orE (unl (decide (x.pa.length ≤ 32)) 6) (goE (fun a v => stepN a (valP v)) x.pa []).1 := by
  unfold parE
  rw [eachE_map]
  unfold eachE
  by_cases h : 32 < x.pa.length
  · rw [if_pos h, decide_eq_false (by omega)]; rfl
  · rw [if_neg h, decide_eq_true (by omega)]; exact orE_yes.symm
 have h2 : sitesE x = orE (orE (unl (decide (0 < x.si.length)) 7) (unl (decide (x.si.length ≤ 16)) 6)) (goE (fun a s => stepN a (siteP s)) x.si []).1 := by
  unfold sitesE
  by_cases h0 : x.si.length = 0
  · rw [if_pos h0, decide_eq_false (by omega)]; rfl
  rw [if_neg h0, decide_eq_true (show 0 < x.si.length by omega), eachE_map]
  unfold eachE
  by_cases h : 16 < x.si.length
  · rw [if_pos h, decide_eq_false (by omega)]; rfl
  · rw [if_neg h, decide_eq_true (by omega)]; exact orE_yes.symm
 rw [h1, h2, orE_assoc, orE_assoc]
set_option maxRecDepth 100000 in
theorem rcheckM_any (x : Mdl) (P : PMdl) (w : World) (hx : OMdl (Lo w.heap.size) w x P) (hz : ZMdl x) (hn : ∀ y ∈ x.si, NwSte y) (hc : ∀ y ∈ x.si, ∀ r ∈ y.ro, cnL r.bo ≤ 4000000) : Calls Tryz.prog 11 #[.agg (cMdl x P)] w (Gives (.int .i64 (mdlE x)) w) := by
 have HX := Lib.hid hx
 have HP := Lib.hid hx.pa
 have HI := Lib.hid hx.si
 have FX := far (w := w) 26 (cMdl x P)
 obtain ⟨n4, hn4⟩ : ∃ n : Nat, 4 = n := ⟨_, rfl⟩
 have hsz4 : ∀ w, (sizeOf 26).run Tryz.prog w = .ok n4 w := fun w => by rw [Tryz.sizeOf26, hn4]
 obtain ⟨kk3, hkk3⟩ : ∃ n : Nat, 3 = n := ⟨_, rfl⟩
 have hsz3 : ∀ w, (sizeOf 63).run Tryz.prog w = .ok kk3 w := fun w => by rw [Tryz.sizeOf63, hkk3]
 have HK3 := Lib.hid hkk3
 obtain ⟨kk13, hkk13⟩ : ∃ n : Nat, 13 = n := ⟨_, rfl⟩
 have hsz13 : ∀ w, (sizeOf 42).run Tryz.prog w = .ok kk13 w := fun w => by rw [Tryz.sizeOf42, hkk13]
 have HK13 := Lib.hid hkk13
 obtain ⟨hpl, hpm⟩ := hx.pa.len
 obtain ⟨hil, him⟩ := hx.si.len
 obtain ⟨mp, hmp⟩ : ∃ n, P.pam = n := ⟨_, rfl⟩
 obtain ⟨ms, hms⟩ : ∃ n, P.sim = n := ⟨_, rfl⟩
 have FK : Hid (∀ W, Below (w.alloc (.cells (cMdl x P) 26)).heap.size (w.alloc (.cells (cMdl x P) 26)) W → W.cell? ⟨w.heap.size, 1, none⟩ = some (.slice P.pap mp P.pac) ∧ W.cell? ⟨w.heap.size, 2, none⟩ = some (.slice P.sip ms P.sic) ∧ (loadCellsFrom ⟨w.heap.size, 0, none⟩ 0 n4 #[]).run Tryz.prog W = .ok (cMdl x P) W) := Lib.hid fun W hb => ⟨by rw [← hmp]; exact (FX.out W hb).get (cMdl1 x P), by rw [← hms]; exact (FX.out W hb).get (cMdl2 x P), (FX.out W hb).cell.ldN (by rw [cMdl_size]; exact hn4)⟩
 have FN : Hid (∀ W, Below (w.alloc (.cells (cMdl x P) 26)).heap.size (w.alloc (.cells (cMdl x P) 26)) W → W.cell? ⟨w.heap.size, 0, none⟩ = some (.string x.nm) ∧ W.cell? ⟨w.heap.size, 1, none⟩ = some (.slice P.pap mp P.pac)) := Lib.hid fun W hb => ⟨(FX.out W hb).get (cMdl0 x P), (FK.out W hb).1⟩
 obtain ⟨c0, hc0⟩ : ∃ v, chk (bs x.nm) = v := ⟨_, rfl⟩
 obtain ⟨b0, hb0⟩ : ∃ b, decide (mp ≤ 32) = b := ⟨_, rfl⟩
 obtain ⟨b1, hb1⟩ : ∃ b, decide (0 < ms) = b := ⟨_, rfl⟩
 obtain ⟨b2, hb2⟩ : ∃ b, decide (ms ≤ 16) = b := ⟨_, rfl⟩
 have u0 : decide ((mp : Int) ≤ 32) = b0 := by rw [← hb0, decide_eq_decide]; omega
 have u1 : decide ((0 : Int) < (ms : Int)) = b1 := by rw [← hb1, decide_eq_decide]; omega
 have u2 : decide ((ms : Int) ≤ 16) = b2 := by rw [← hb2, decide_eq_decide]; omega
 obtain ⟨e0, he0⟩ : ∃ v, orE c0 (unl b0 6) = v := ⟨_, rfl⟩
 obtain ⟨e1, he1⟩ : ∃ v, orE (unl b1 7) (unl b2 6) = v := ⟨_, rfl⟩
 obtain ⟨vl, hvl⟩ : ∃ v, lnksE x = v := ⟨_, rfl⟩
 rw [hmp] at hpl HP
 rw [hms] at hil HI
 have HE := Lib.hid (show mdlE x = orE e0 (orE (goE (fun a v => stepN a (valP v)) x.pa []).1 (orE e1 (orE (goE (fun a s => stepN a (siteP s)) x.si []).1 vl))) by rw [mdl_unl, hpl, hil, hc0, hb0, hb1, hb2, he0, he1, hvl])
 have CN := Lib.hid (fun W => rchk_at hc0 hz.nm W)
 have CF0 := Lib.hid (fun W => (show Calls Tryz.prog 32 #[.int .i64 c0, .int .i64 (unl b0 6)] W (Stay (.int .i64 e0) W) by rw [← he0]; exact first_any _ _ W))
 have CF1 := Lib.hid (fun W => (show Calls Tryz.prog 32 #[.int .i64 (unl b1 7), .int .i64 (unl b2 6)] W (Stay (.int .i64 e1) W) by rw [← he1]; exact first_any _ _ W))
 have CL := Lib.hid (fun W (hW : Below w.heap.size w W) => (show Calls Tryz.prog 38 #[.agg (cMdl x P)] W (Gives (.int .i64 vl) W) by rw [← hvl]; exact rlinks_any x P W (HX.out.on hW)))
 have CS := Lib.hid (fun W (y : Ste) (Q : PSte) (hy : y ∈ x.si) (hQ : OSte (Lo W.heap.size) W y Q) => rsiteT_any y Q W hQ (hz.si y hy) (hn y hy) (hc y hy))
 have HZP := Lib.hid hz.pa
 have HZS := Lib.hid (fun y (hy : y ∈ x.si) => (hz.si y hy).nm)
 have HPL := Lib.hid hpl
 have HIL := Lib.hid hil
 have hb0' : mp ≤ 32 ↔ b0 = true := by rw [← hb0, decide_eq_true_eq]
 have hb2' : ms ≤ 16 ↔ b2 = true := by rw [← hb2, decide_eq_true_eq]
 have HB0 := Lib.hid (show e0 = 0 → mp ≤ 32 from fun h => by
  rw [← he0] at h
  have h2 := (orE_zero.1 h).2
  cases b0
  · exact absurd h2 (by decide)
  · exact hb0'.2 rfl)
 have HB1 := Lib.hid (show e1 = 0 → ms ≤ 16 from fun h => by
  rw [← he1] at h
  have h2 := (orE_zero.1 h).2
  cases b2
  · exact absurd h2 (by decide)
  · exact hb2'.2 rfl)
 have tp : (mp : Int) ≤ 9223372036854775807 := by omega
 have ts : (ms : Int) ≤ 9223372036854775807 := by omega
 clear hx hz hn hc hn4 hkk3 hkk13 hpl hpm hil him hmp hms hc0 he0 he1 hvl hb0' hb2'
 obtain ⟨s0, s1⟩ := FN.out (w.alloc (.cells (cMdl x P) 26)) (Below.refl _ _)
 go_enter Tryz.func11, Tryz.ntmps11
 go_wp2_with fail
 go_region_held3 (fun W => W.cell? ⟨w.heap.size, 0, none⟩ = some (.string x.nm) ∧ W.cell? ⟨w.heap.size, 1, none⟩ = some (.slice P.pap mp P.pac)) (first | (refine FN.out _ ?_; exact bl; done) | (go_keep; done)) (first
  | (have t := t2; go_at_call 32; refine (CF0.out _).mono ?_; rintro e w4 ⟨rfl, rfl⟩)
  | (have t := hq1; go_at_call 34; (try rw [hb0]); refine (unless_any b0 6 _).mono ?_; rintro e w3 ⟨rfl, rfl⟩; have t2 := trivial)
  | (go_at_call 33; refine (CN.out _).mono ?_; rintro e w1 ⟨rfl, hq1⟩))
 all_goals
  have HQ1 : Hid (Below (w.alloc (.cells (cMdl x P) 26)).heap.size (w.alloc (.cells (cMdl x P) 26)) w1) := Lib.hid bl
  clear s0 s1
  by_cases h0 : e0 = 0
  rotate_left 1
  · have t1 : (e0 != 0) = true := bne_iff_ne.2 h0
    have HV := Lib.hid (show mdlE x = e0 by rw [HE.out, orE_no h0])
    clear h0
    go_wp2_with fail
    go_ret
    exact ⟨by rw [HV.out]; rfl, by have h1 := HQ1.out; exact bl⟩
  subst h0
  have mp32 := HB0.out rfl
  have HE2 := Lib.hid (show mdlE x = orE (goE (fun a v => stepN a (valP v)) x.pa []).1 (orE e1 (orE (goE (fun a s => stepN a (siteP s)) x.si []).1 vl)) by rw [HE.out, orE_yes])
  go_wp2_with fail
  obtain ⟨U, hU⟩ : ∃ W, W = w1 := ⟨_, rfl⟩
  subst hU
  go_loopw [4, 5] (fun v i wr => ∃ (k : Nat) (acc : List ByteArray), k ≤ mp ∧ i = .int .i64 (k : Nat) ∧ Hid (Bfo U v acc wr ∧ acc.length ≤ k) ∧ Hid (goE (fun a v => stepN a (valP v)) (x.pa.take k) [] = (0, acc))) (fun _ i _ => mp - (intOf i).toNat)
  case atStart => exact ⟨0, [], Nat.zero_le _, rfl, Lib.hid ⟨Bfo.nil U, Nat.zero_le _⟩, Lib.hid rfl⟩
  case round =>
   obtain ⟨k, acc, hk, rfl, HO, HA⟩ := hrel
   have k0 : (0 : Int) ≤ (k : Int) := by omega
   obtain ⟨hbo, hal⟩ := HO.out
   obtain ⟨p, m, c, rfl, hst⟩ := hbo.strs (by omega)
   have HST := Lib.hid hst
   have HAL := Lib.hid hal
   have HBo := Lib.hid hbo
   have HBW : Hid (Below (w.alloc (.cells (cMdl x P) 26)).heap.size (w.alloc (.cells (cMdl x P) 26)) wr) := Lib.hid (by have h1 := HQ1.out; have h2 := hbo.below; exact bl)
   have HBw : Hid (Below w.heap.size w wr) := Lib.hid (by have h1 := HBW.out; exact bl)
   obtain ⟨g1, g2, g3⟩ := FK.out wr HBW.out
   clear hst hbo HO hal
   rcases Nat.lt_or_ge k mp with h | h
   · have k1 : (k : Int) < (mp : Int) := by omega
     have hkl : k < x.pa.length := by rw [HPL.out]; exact h
     obtain ⟨b, o, hp, hbG, hG, hcell⟩ := (HP.out.on RVal.map HBw.out).rows (by omega)
     obtain ⟨d, hds, hat, hR⟩ := hcell.out k hkl
     obtain ⟨y, hy⟩ : ∃ y, x.pa[k] = y := ⟨_, rfl⟩
     have HX2 := Lib.hid (show x.pa[k]? = some y by rw [← hy]; exact List.getElem?_eq_getElem hkl)
     have HNy := Lib.hid (HZP.out y (by rw [← hy]; exact List.getElem_mem hkl))
     rw [hy] at hR
     obtain rfl : d = cVal y := hR
     rw [hp] at g1
     obtain ⟨e, he⟩ : ∃ e, orE (decE acc y.nm) (valT y) = e := ⟨_, rfl⟩
     have HS := Lib.hid (show (stepN acc (valP y)).1 = e from he)
     have C1 := Lib.hid (fun W (hW : Below wr.heap.size wr W) => (show Calls Tryz.prog 35 #[.agg (cVal y), .slice p m c] W (Gives (.int .i64 e) W) by rw [← he]; exact rvalue_any y p m c acc W HNy.out fun W2 hW2 => HST.out W2 (hW.trans (hW2.mono hW.size))))
     have ld1 := At.ldN (n := kk3) (hat.at HK3.out) (by rw [hds]; exact HK3.out)
     have a0 := (hat.at HK3.out).get (r := 0) (v := .string y.nm) (cVal0 y)
     rw [Nat.add_zero] at a0
     have FA : Hid (∀ W, Below wr.heap.size wr W → W.cell? ⟨b, o + k * kk3, none⟩ = some (.string y.nm) ∧ W.cell? ⟨w.heap.size, 1, none⟩ = some (.slice (some ⟨b, o, none⟩) mp P.pac)) := Lib.hid fun W hW => ⟨(hW.cell (p := ⟨b, o + k * kk3, none⟩) (block_lt a0)).trans a0, (hW.cell (p := ⟨w.heap.size, 1, none⟩) (block_lt g1)).trans g1⟩
     clear hcell hds hat hy hkl he hG hbG hp a0
     by_cases h0 : e = 0
     rotate_left 1
     · have t1 : (e != 0) = true := bne_iff_ne.2 h0
       have HV := Lib.hid (show mdlE x = e by rw [HE2.out, goE_stop HX2.out HA.out (by rw [HS.out]; exact h0), HS.out, orE_no h0])
       clear h0
       go_wp2_with fail
       refine (C1.out _ bl).mono ?_
       rintro e2 w2 ⟨rfl, hb2⟩
       go_wp2_with fail
       go_ret
       exact ⟨by rw [HV.out]; rfl, by have h1 := HBw.out; exact bl⟩
     · subst h0
       have HG := Lib.hid (go_acc HX2.out HA.out HS.out)
       go_wp2_with fail
       refine (C1.out _ bl).mono ?_
       rintro e2 w2 ⟨rfl, hb2⟩
       obtain ⟨f0, f1⟩ := FA.out w2 bl
       obtain ⟨v3, w3, hrun, hb3⟩ := HBo.out.app hb2 y.nm (by have := HAL.out; omega)
       have HB3 := Lib.hid hb3
       clear hb3
       go_wp2_with (at_builtin; refine Lib.wpList_append_run _ rfl _ _ _ _ rfl _ _ rfl rfl _ _ hrun ?_)
       go_roundw
       case rel => exact ⟨k + 1, acc ++ [y.nm], by omega, by go_num, Lib.hid ⟨HB3.out, by rw [List.length_append]; have := HAL.out; simp; omega⟩, HG⟩
       case measure => simp [intOf]; omega
   · obtain rfl : mp = k := by omega
     have HE3 := Lib.hid (show mdlE x = orE e1 (orE (goE (fun a s => stepN a (siteP s)) x.si []).1 vl) by
      have h1 := HA.out
      rw [List.take_of_length_le (by rw [HPL.out]; exact Nat.le_refl _)] at h1
      rw [HE2.out, h1]; exact orE_yes)
     have FS : Hid (∀ W, Below wr.heap.size wr W → W.cell? ⟨w.heap.size, 2, none⟩ = some (.slice P.sip ms P.sic)) := Lib.hid fun W hW => (FK.out W (HBW.out.trans (hW.mono HBW.out.size))).2.1
     clear HA HST HBo HAL
     go_wp2_with fail
     clear g1 g3
     go_region_held3 (fun W => W.cell? ⟨w.heap.size, 2, none⟩ = some (.slice P.sip ms P.sic)) (first | (refine FS.out _ ?_; exact bl; done) | (go_keep; done)) (first
      | (have t := t2; go_at_call 32; refine (CF1.out _).mono ?_; rintro e w4 ⟨rfl, rfl⟩)
      | (have t := t1; go_at_call 34; (try rw [hb2]); refine (unless_any b2 6 _).mono ?_; rintro e w3 ⟨rfl, rfl⟩; have t2 := trivial)
      | (go_at_call 34; (try rw [hb1]); refine (unless_any b1 7 _).mono ?_; rintro e w2 ⟨rfl, rfl⟩; have t1 := trivial))
     all_goals
      by_cases h0 : e1 = 0
      rotate_left 1
      · have t1 : (e1 != 0) = true := bne_iff_ne.2 h0
        have HV := Lib.hid (show mdlE x = e1 by rw [HE3.out, orE_no h0])
        clear h0
        go_wp2_with fail
        go_ret
        exact ⟨by rw [HV.out]; rfl, by have h1 := HBw.out; exact bl⟩
      subst h0
      have ms16 := HB1.out rfl
      have HE4 := Lib.hid (show mdlE x = orE (goE (fun a s => stepN a (siteP s)) x.si []).1 vl by rw [HE3.out, orE_yes])
      go_wp2_with fail
      generalize hU1 : wr.drew = U1
      have HU1 : Hid (Below (w.alloc (.cells (cMdl x P) 26)).heap.size (w.alloc (.cells (cMdl x P) 26)) U1) := Lib.hid (by rw [← hU1]; have h1 := HBW.out; exact bl)
      clear hU1
      go_loopw [6, 7] (fun v i wv => ∃ (k : Nat) (acc : List ByteArray), k ≤ ms ∧ i = .int .i64 (k : Nat) ∧ Hid (Bfo U1 v acc wv ∧ acc.length ≤ k) ∧ Hid (goE (fun a s => stepN a (siteP s)) (x.si.take k) [] = (0, acc))) (fun _ i _ => ms - (intOf i).toNat)
      case atStart => exact ⟨0, [], Nat.zero_le _, rfl, Lib.hid ⟨Bfo.nil U1, Nat.zero_le _⟩, Lib.hid rfl⟩
      case round =>
       obtain ⟨k, acc, hk, rfl, HO, HA⟩ := hrel
       have k0 : (0 : Int) ≤ (k : Int) := by omega
       obtain ⟨hbo, hal⟩ := HO.out
       obtain ⟨p, m, c, rfl, hst⟩ := hbo.strs (by omega)
       have HST := Lib.hid hst
       have HAL := Lib.hid hal
       have HBo := Lib.hid hbo
       have HBV : Hid (Below (w.alloc (.cells (cMdl x P) 26)).heap.size (w.alloc (.cells (cMdl x P) 26)) wr) := Lib.hid (by have h1 := HU1.out; have h2 := hbo.below; exact bl)
       have HBv : Hid (Below w.heap.size w wr) := Lib.hid (by have h1 := HBV.out; exact bl)
       obtain ⟨g1, g2, g3⟩ := FK.out wr HBV.out
       clear hst hbo HO hal
       rcases Nat.lt_or_ge k ms with h | h
       · have k1 : (k : Int) < (ms : Int) := by omega
         have hkl : k < x.si.length := by rw [HIL.out]; exact h
         obtain ⟨b, o, hp, hbG, hG, hcell⟩ := (HI.out.on RSte.map HBv.out).rows (by omega)
         obtain ⟨d, hds, hat, hR⟩ := hcell.out k hkl
         obtain ⟨y, hy⟩ : ∃ y, x.si[k] = y := ⟨_, rfl⟩
         have HX2 := Lib.hid (show x.si[k]? = some y by rw [← hy]; exact List.getElem?_eq_getElem hkl)
         have HMy := Lib.hid (show y ∈ x.si by rw [← hy]; exact List.getElem_mem hkl)
         rw [hy] at hR
         obtain ⟨Q, rfl, hQ⟩ := hR
         rw [hp] at g2
         obtain ⟨d1, hd1⟩ : ∃ e, decE acc y.nm = e := ⟨_, rfl⟩
         obtain ⟨d2, hd2⟩ : ∃ e, siteT y = e := ⟨_, rfl⟩
         obtain ⟨e, he⟩ : ∃ e, orE d1 d2 = e := ⟨_, rfl⟩
         have HS := Lib.hid (show (stepN acc (siteP y)).1 = e by show orE (decE acc y.nm) (siteT y) = e; rw [hd1, hd2, he])
         have C1 := Lib.hid (fun W (hW : Below wr.heap.size wr W) => rnamed_bf (U := U1) (v := .slice p m c) (c := c) hd1 (HZS.out y HMy.out) HST.out hW)
         have C2 := Lib.hid (fun W (hW : Below wr.heap.size wr W) => (show Calls Tryz.prog 37 #[.agg (cSte y Q)] W (Gives (.int .i64 d2) W) by rw [← hd2]; exact CS.out W y Q HMy.out (hQ.on hW)))
         have C3 := Lib.hid (fun W => (show Calls Tryz.prog 32 #[.int .i64 d1, .int .i64 d2] W (Stay (.int .i64 e) W) by rw [← he]; exact first_any _ _ W))
         have a0 := (hat.at HK13.out).get (r := 0) (v := .string y.nm) (cSte0 y Q)
         rw [Nat.add_zero] at a0
         have FR : Hid (∀ W, Below wr.heap.size wr W → W.cell? ⟨w.heap.size, 2, none⟩ = some (.slice (some ⟨b, o, none⟩) ms P.sic) ∧ W.cell? ⟨b, o + k * kk13, none⟩ = some (.string y.nm) ∧ (loadCellsFrom ⟨b, o + k * kk13, none⟩ 0 kk13 #[]).run Tryz.prog W = .ok (cSte y Q) W) := Lib.hid fun W hW => ⟨(hW.cell (p := ⟨w.heap.size, 2, none⟩) (block_lt g2)).trans g2, (hW.cell (p := ⟨b, o + k * kk13, none⟩) (block_lt a0)).trans a0, ((hat.on hW hG).at HK13.out).ldN (by rw [hds]; exact HK13.out)⟩
         clear hcell hds hat hy hkl he hd1 hd2 hG hbG hp a0 hQ
         go_wp2_with fail
         clear g1 g2 g3
         go_region_held3 (fun W => W.cell? ⟨w.heap.size, 2, none⟩ = some (.slice (some ⟨b, o, none⟩) ms P.sic) ∧ W.cell? ⟨b, o + k * kk13, none⟩ = some (.string y.nm) ∧ (loadCellsFrom ⟨b, o + k * kk13, none⟩ 0 kk13 #[]).run Tryz.prog W = .ok (cSte y Q) W) (first | (refine FR.out _ ?_; exact bl; done) | (go_keep; done)) (first
          | (have t := hb2; go_at_call 32; refine (C3.out _).mono ?_; rintro e w4 ⟨rfl, rfl⟩)
          | (have t := hb1; go_at_call 37; refine (C2.out _ bl).mono ?_; rintro e w2 ⟨rfl, hb2⟩)
          | (go_at_call 36; refine (C1.out _ bl).mono ?_; rintro e w1 ⟨rfl, hb1⟩))
         all_goals
          have HB2 : Hid (Below wr.heap.size wr w2) := Lib.hid bl
          obtain ⟨f0, f1, f2⟩ := FR.out w2 HB2.out
          by_cases h0 : e = 0
          rotate_left 1
          · have t1 : (e != 0) = true := bne_iff_ne.2 h0
            have HV := Lib.hid (show mdlE x = e by rw [HE4.out, goE_stop HX2.out HA.out (by rw [HS.out]; exact h0), HS.out, orE_no h0])
            clear h0
            go_wp2_with fail
            go_ret
            exact ⟨by rw [HV.out]; rfl, by have h1 := HB2.out; have h2 := HBv.out; exact bl⟩
          · subst h0
            have HG := Lib.hid (go_acc HX2.out HA.out HS.out)
            obtain ⟨v3, w3, hrun, hb3⟩ := HBo.out.app HB2.out y.nm (by have := HAL.out; omega)
            have HB3 := Lib.hid hb3
            clear hb3
            go_wp2_with (at_builtin; refine Lib.wpList_append_run _ rfl _ _ _ _ rfl _ _ rfl rfl _ _ hrun ?_)
            go_roundw
            case rel => exact ⟨k + 1, acc ++ [y.nm], by omega, by go_num, Lib.hid ⟨HB3.out, by rw [List.length_append]; have := HAL.out; simp; omega⟩, HG⟩
            case measure => simp [intOf]; omega
       · obtain rfl : ms = k := by omega
         have HV := Lib.hid (show mdlE x = vl by
          have h1 := HA.out
          rw [List.take_of_length_le (by rw [HIL.out]; exact Nat.le_refl _)] at h1
          rw [HE4.out, h1]; exact orE_yes)
         go_wp2_with fail
         refine (CL.out _ HBv.out).mono ?_
         rintro e w5 ⟨rfl, hb5⟩
         go_wp2_with fail
         go_ret
         exact ⟨by rw [HV.out]; rfl, by have h1 := HBv.out; exact bl⟩
end Go.Proofs.YtaaffmbnhjaebaaGreat.Md
namespace Go.Proofs.YtaaffmbnhjaebaaGreat.Md
open Go.RowKit Go.Maps
open Go.Proofs.YtaaffmbnhjaebaaGreat.Ex (Lo Gives)
set_option maxHeartbeats 8000000
set_option linter.unusedVariables false
theorem rchkX_at {x : Mdl} {P : PMdl} {e : Int} (h : mdlE x = e) (w : World) (hx : OMdl (Lo w.heap.size) w x P) (hf : Fit x) : Calls Tryz.prog 11 #[.agg (cMdl x P)] w (Gives (.int .i64 e) w) := by rw [← h]; exact rcheckM_any x P w hx hf.z hf.n hf.c
set_option maxRecDepth 100000 in
theorem modelChecks_walk (x : Mdl) (P : PMdl) (w : World) (hx : OMdl (Lo w.heap.size) w x P) (hf : Fit x) : Calls Tryz.prog 3 #[.agg (cMdl x P)] w (Gives (.bool true) w) := by
 have HX := Lib.hid hx
 have FX := far (w := w) 26 (cMdl x P)
 obtain ⟨n4, hn4⟩ : ∃ n : Nat, 4 = n := ⟨_, rfl⟩
 have hsz4 : ∀ w, (sizeOf 26).run Tryz.prog w = .ok n4 w := fun w => by rw [Tryz.sizeOf26, hn4]
 have HN4 := Lib.hid hn4
 have FM : Hid (∀ W, Below (w.alloc (.cells (cMdl x P) 26)).heap.size (w.alloc (.cells (cMdl x P) 26)) W → (loadCellsFrom ⟨w.heap.size, 0, none⟩ 0 n4 #[]).run Tryz.prog W = .ok (cMdl x P) W) := Lib.hid fun W hb => (FX.out W hb).cell.ldN (by rw [cMdl_size]; exact hn4)
 have ld0 := FM.out (w.alloc (.cells (cMdl x P) 26)) (Below.refl _ _)
 obtain ⟨lb, hlb⟩ : ∃ b, lightB x = b := ⟨_, rfl⟩
 obtain ⟨v, hv⟩ : ∃ v, mdlE x = v := ⟨_, rfl⟩
 have CL := Lib.hid (fun W (hW : Below w.heap.size w W) => light_at hlb W (HX.out.on hW) hf)
 have C1 := Lib.hid (fun W (hW : Below w.heap.size w W) => chkX_at hv W (HX.out.on hW) hf)
 have C2 := Lib.hid (fun W (hW : Below w.heap.size w W) => rchkX_at hv W (HX.out.on hW) hf)
 clear hx hf hn4 hlb hv
 cases lb with
 | false =>
  go_enter Tryz.func3, Tryz.ntmps3
  go_wp2_with fail
  refine (CL.out _ bl).mono ?_
  rintro e w1 ⟨rfl, hb1⟩
  go_wp2_with fail
  refine (awake_any _).mono ?_
  rintro e wz ⟨rfl, hbz⟩
  go_wp2_with fail
  go_ret
  exact ⟨rfl, bl⟩
 | true =>
  go_enter Tryz.func3, Tryz.ntmps3
  go_wp2_with fail
  refine (CL.out _ bl).mono ?_
  rintro e w1 ⟨rfl, hb1⟩
  have HB1 : Hid (Below (w.alloc (.cells (cMdl x P) 26)).heap.size (w.alloc (.cells (cMdl x P) 26)) w1) := Lib.hid bl
  go_wp2_with fail
  clear ld0 hb1
  go_region_held3 (fun W => (loadCellsFrom ⟨w.heap.size, 0, none⟩ 0 n4 #[]).run Tryz.prog W = .ok (cMdl x P) W) (first | (refine FM.out _ ?_; have h := HB1.out; exact bl; done) | (go_keep; done)) (first
   | (have t := hb3; go_at_call 9; refine (awake_any _).mono ?_; rintro e w4 ⟨rfl, hb4⟩)
   | (have t := hb2; go_at_call 11; refine (C2.out _ (by have h := HB1.out; exact bl)).mono ?_; rintro e w3 ⟨rfl, hb3⟩)
   | (go_at_call 10; refine (C1.out _ (by have h := HB1.out; exact bl)).mono ?_; rintro e w2 ⟨rfl, hb2⟩))
  all_goals
   have HB4 := Lib.hid hb4
   go_wp2_with fail
   go_ret
   exact ⟨rfl, by have h := HB1.out; exact bl⟩
end Go.Proofs.YtaaffmbnhjaebaaGreat.Md
