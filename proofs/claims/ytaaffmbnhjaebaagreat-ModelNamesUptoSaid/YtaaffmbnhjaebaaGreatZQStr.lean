/-
  Parts of this proof: The contract of checkStart and of the closure that calls it. The contracts of checkLaw, checkLaws, checkLinks, and of the list of starts; what Kind gives is asked for.
-/
import Derived.Test.YtaaffmbnhjaebaaGreatZQFlt
import Derived.Test.YtaaffmbnhjaebaaGreatZQLnk
namespace Go.Proofs.YtaaffmbnhjaebaaGreat.Md
open Go.RowKit
open Go.Proofs.YtaaffmbnhjaebaaGreat.Na (fst fst_lt)
open Go.Proofs.YtaaffmbnhjaebaaGreat.Sm (Ints)
open Go.Proofs.YtaaffmbnhjaebaaGreat.Ex (Lo Gives take_one)
attribute [local go_sem] cSta0 cSta1 cSta2 cSta3 cSta4 cSte10
set_option maxHeartbeats 4000000
set_option linter.unusedVariables false
theorem fitL_app : ∀ {a c : List Fld} {b d : List Int}, a.length = b.length → fitL (a ++ c) (b ++ d) = (fitL a b && fitL c d)
 | [], c, [], d, _ => by simp [fitL]
 | x :: t, c, y :: u, d, h => by rw [List.cons_append, List.cons_append, fitL, fitL, fitL_app (by simpa using h), Bool.and_assoc]
 | [], _, _ :: _, _, h => by simp at h
 | _ :: _, _, [], _, h => by simp at h
theorem fitL_take {l : List Fld} {m : List Int} {k : Nat} {x : Fld} {y : Int} (hx : l[k]? = some x) (hy : m[k]? = some y) (h : fitL (l.take k) (m.take k) = true) (g : fits x.ty y = true) : fitL (l.take (k + 1)) (m.take (k + 1)) = true := by
 obtain ⟨hk, -⟩ := List.getElem?_eq_some_iff.1 hx
 obtain ⟨hj, -⟩ := List.getElem?_eq_some_iff.1 hy
 rw [take_one hx, take_one hy, fitL_app (by rw [List.length_take, List.length_take]; omega), h, fitL, g]; rfl
theorem fitL_stop {l : List Fld} {m : List Int} {k : Nat} {x : Fld} {y : Int} (hx : l[k]? = some x) (hy : m[k]? = some y) (g : fits x.ty y = false) : fitL l m = false := by
 obtain ⟨hk, e1⟩ := List.getElem?_eq_some_iff.1 hx
 obtain ⟨hj, e2⟩ := List.getElem?_eq_some_iff.1 hy
 have a := List.take_append_drop k l
 have b := List.take_append_drop k m
 rw [List.drop_eq_getElem_cons hk, e1] at a
 rw [List.drop_eq_getElem_cons hj, e2] at b
 rw [← a, ← b, fitL_app (by rw [List.length_take, List.length_take]; omega), fitL, g]
 simp
theorem rou_at {ro : List Rou} {s : ByteArray} (h : 0 ≤ rouI ro s) : ∃ (j : Nat) (r : Rou), rouI ro s = (j : Int) ∧ ro[j]? = some r := by
 have h1 := fst_lt s (ro.map (·.nm))
 rw [List.length_map] at h1
 have h2 : rouI ro s = fst (ro.map (·.nm)) s := rfl
 have h3 : (rouI ro s).toNat < ro.length := by omega
 exact ⟨(rouI ro s).toNat, ro[(rouI ro s).toNat], by omega, List.getElem?_eq_getElem h3⟩
theorem staE_none {ro : List Rou} {d : Sta} (h : rouI ro d.ro < 0) : staE ro d = 5 := by unfold staE; rw [if_pos h]
theorem staE_some {ro : List Rou} {d : Sta} {j : Nat} {r : Rou} (h : rouI ro d.ro = (j : Int)) (hr : ro[j]? = some r) : staE ro d = if d.ar.length = r.ps.length then (if fitL r.ps d.ar then (if isT d.a && isT d.e && isT d.u && !(decide (d.e = 0) && !decide (d.u = 0)) then 0 else 2) else 2) else 8 := by
 unfold staE; rw [if_neg (by omega), h, Int.toNat_natCast, hr]
theorem time_gives {n : Int} {b : Bool} (h : isT n = b) (w : World) : Calls Tryz.prog 98 #[.int .i64 n] w (Stay (.bool b) w) := by rw [← h]; exact isTime_any n w
theorem zQStr_1 {p : Prop} (h : p := by
 rintro e v2 ⟨rfl, rfl⟩
 go_wp2_with fail
 go_ret
 exact ⟨by rw [← HV2.out]; rfl, by have HBB := HBW.out; exact bl⟩
 ) : p := h
theorem zQStr_0 {p : Prop} (h : p := by
 go_wp2_with fail
 refine (T1.out _).mono ?_
 rintro e v2 ⟨rfl, rfl⟩
 go_wp2_with fail
 refine (T2.out _).mono ?_
 rintro e v2 ⟨rfl, rfl⟩
 go_wp2_with fail
 refine (T3.out _).mono ?_
 exact zQStr_1
 ) : p := h
set_option maxRecDepth 100000 in
theorem checkStart_any (x : Ste) (P : PSte) (d : Sta) (Q : PSta) (w : World) (hx : Rw 4 RRou (Lo w.heap.size) w x.ro P.rop P.rom) (hd : OSta (Lo w.heap.size) w d Q) : Calls Tryz.prog 114 #[.agg (cSte x P), .agg (cSta d Q)] w (Gives (.int .i64 (staE x.ro d)) w) := by
 have HX := Lib.hid hx
 have HD := Lib.hid hd
 have FX := far2 (w := w) 42 105 (cSte x P) (cSta d Q)
 obtain ⟨n13, hn13⟩ : ∃ n : Nat, 13 = n := ⟨_, rfl⟩
 have hsz13 : ∀ w, (sizeOf 42).run Tryz.prog w = .ok n13 w := fun w => by rw [Tryz.sizeOf42, hn13]
 have HN13 := Lib.hid hn13
 have ld := fun W => ((far2 (w := W) 42 105 (cSte x P) (cSta d Q)).out _ (Below.refl _ _)).1.cell.ldN HN13.out
 obtain ⟨v, hv⟩ : ∃ v, rouI x.ro d.ro = v := ⟨_, rfl⟩
 have CR := Lib.hid (fun W (hW : Below w.heap.size w W) => (show Calls Tryz.prog 16 #[.agg (cSte x P), .string d.ro] W (Gives (.int .i64 v) W) by rw [← hv]; exact routine_any x P d.ro W (HX.out.on RRou.map hW)))
 by_cases hv0 : v < 0
 · rw [staE_none (by rw [hv]; exact hv0)]
   have t0 := decide_eq_true hv0
   clear hx hd hn13 hv
   go_enter Tryz.func114, Tryz.ntmps114
   go_wp2_with fail
   refine (CR.out _ bl).mono ?_
   rintro e v1 ⟨rfl, hb1⟩
   go_wp2_with fail
   go_ret
   exact ⟨rfl, bl⟩
 obtain ⟨j, r, hj, hr⟩ := rou_at (ro := x.ro) (s := d.ro) (by rw [hv]; omega)
 rw [hv] at hj
 subst hj
 rw [staE_some hv hr]
 obtain ⟨hrl, hrm⟩ := hx.len
 obtain ⟨hal, ham⟩ : d.ar.length = Q.arm ∧ Q.arm ≤ 9223372036854775807 := ⟨hd.ar.1, hd.ar.2.1⟩
 have hjl : j < x.ro.length := (List.getElem?_eq_some_iff.1 hr).1
 have j0 : (0 : Int) ≤ (j : Int) := by omega
 have j1 : (j : Int) < (P.rom : Int) := by omega
 have j2 : ¬ (j : Int) < 0 := by omega
 obtain ⟨b, o, hp, hbG, hG, hcell⟩ := HX.out.rows (by omega)
 obtain ⟨c, hcs, hat, hR⟩ := hcell.out j hjl
 have hrj : x.ro[j] = r := by rw [List.getElem?_eq_getElem hjl] at hr; exact Option.some.inj hr
 rw [hrj] at hR
 obtain ⟨PR, rfl, hRO⟩ := hR
 have HRO := Lib.hid hRO
 have FP : Hid (∀ W, Below w.heap.size w W → W.cell? ⟨b, o + j * 4 + 1, none⟩ = some (.slice PR.psp PR.psm PR.psc)) := Lib.hid fun W hW => (hat.on hW hG).get (cRou1 r PR)
 have hc10 : (cSte x P)[10]? = some (.slice (some ⟨b, o, none⟩) P.rom P.roc) := by rw [cSte10, hp]
 have FY : Hid (∀ W, Below ((w.alloc (.cells (cSte x P) 42)).alloc (.cells (cSta d Q) 105)).heap.size ((w.alloc (.cells (cSte x P) 42)).alloc (.cells (cSta d Q) 105)) W → W.cell? ⟨w.heap.size, 10, none⟩ = some (.slice (some ⟨b, o, none⟩) P.rom P.roc) ∧ W.cell? ⟨w.heap.size + 1, 1, none⟩ = some (.slice Q.arp Q.arm Q.arc) ∧ W.cell? ⟨w.heap.size + 1, 2, none⟩ = some (.int .i64 d.a) ∧ W.cell? ⟨w.heap.size + 1, 3, none⟩ = some (.int .i64 d.e) ∧ W.cell? ⟨w.heap.size + 1, 4, none⟩ = some (.int .i64 d.u)) := Lib.hid fun W hb => by
  have q := FX.out W hb
  exact ⟨q.1.get hc10, q.2.get (cSta1 d Q), q.2.get (cSta2 d Q), q.2.get (cSta3 d Q), q.2.get (cSta4 d Q)⟩
 have hpl : r.ps.length = PR.psm := hRO.ps.1
 have hpm : PR.psm ≤ 9223372036854775807 := hRO.ps.2.1
 clear hx hd hn13 hcell hcs hat hRO hp hrj hc10
 by_cases hlen : Q.arm = PR.psm
 rotate_left 1
 · rw [if_neg (by omega)]
   have u1 : ((Q.arm : Int) == (PR.psm : Int)) = false := beq_eq_false_iff_ne.2 (by omega)
   have u2 : ((Q.arm : Int) != (PR.psm : Int)) = true := bne_iff_ne.2 (by omega)
   have u3 : (Q.arm == PR.psm) = false := beq_eq_false_iff_ne.2 hlen
   have u4 : (Q.arm != PR.psm) = true := bne_iff_ne.2 hlen
   clear hrl hrm hal ham hjl hpl hpm hr hv hbG
   go_enter Tryz.func114, Tryz.ntmps114
   go_wp2_with fail
   refine (CR.out _ bl).mono ?_
   rintro e v1 ⟨rfl, hb1⟩
   obtain ⟨q1, q2, q3, q4, q5⟩ := FY.out v1 bl
   have q6 := FP.out v1 bl
   go_wp2_with fail
   go_ret
   exact ⟨rfl, bl⟩
 rw [if_pos (by omega)]
 obtain ⟨V, hV⟩ : ∃ V : Int, (if fitL r.ps d.ar then (if isT d.a && isT d.e && isT d.u && !(decide (d.e = 0) && !decide (d.u = 0)) then 0 else 2) else 2) = V := ⟨_, rfl⟩
 rw [hV]
 have HV := Lib.hid hV
 clear hV
 obtain ⟨m, hm⟩ : ∃ m, Q.arm = m := ⟨_, rfl⟩
 have hm2 : PR.psm = m := by omega
 have HAR : Hid (Ints (Lo w.heap.size) w d.ar Q.arp m) := Lib.hid (by rw [← hm]; exact HD.out.ar)
 have HPS : Hid (Rw 2 RFld (Lo w.heap.size) w r.ps PR.psp m) := Lib.hid (by rw [← hm2]; exact HRO.out.ps)
 have HAL := Lib.hid (show d.ar.length = m by omega)
 have HPL := Lib.hid (show r.ps.length = m by omega)
 rw [hm2] at FP
 rw [hm] at FY
 have m1 : (m : Int) ≤ 9223372036854775807 := by omega
 clear hrl hrm hal ham hjl hpl hpm hr hv hbG hlen hm hm2
 go_enter Tryz.func114, Tryz.ntmps114
 go_wp2_with fail
 refine (CR.out _ bl).mono ?_
 rintro e v1 ⟨rfl, hb1⟩
 obtain ⟨q1, q2, q3, q4, q5⟩ := FY.out v1 bl
 have q6 := FP.out v1 bl
 have HB1 := Lib.hid hb1
 go_wp2_with fail
 go_loopw [30] (fun i wr => ∃ k : Nat, k ≤ m ∧ i = .int .i64 (k : Nat) ∧ Hid (Below v1.heap.size v1 wr) ∧ Hid (fitL (r.ps.take k) (d.ar.take k) = true)) (fun i _ => m - (intOf i).toNat)
 case atStart => exact ⟨0, Nat.zero_le _, rfl, Lib.hid (Below.refl _ _), Lib.hid rfl⟩
 case round =>
  obtain ⟨k, hk, rfl, HW, HA⟩ := hrel
  have HBW : Hid (Below w.heap.size w wr) := Lib.hid (by have HBB := HW.out; exact bl)
  have k0 : (0 : Int) ≤ (k : Int) := by omega
  clear q1 q2 q3 q4 q5 q6
  rcases Nat.lt_or_ge k m with h | h
  · have k1 : (k : Int) < (m : Int) := by omega
    have hkl : k < d.ar.length := by rw [HAL.out]; exact h
    have hkp : k < r.ps.length := by rw [HPL.out]; exact h
    have HX1 := Lib.hid (List.getElem?_eq_getElem hkl)
    have HX2 := Lib.hid (List.getElem?_eq_getElem hkp)
    obtain ⟨h1, h2, h3 | ⟨b1, o1, hp1, g1, l1, c1⟩⟩ := (HAR.out.map HBW.out.size fun b g _ => ⟨Nat.lt_of_lt_of_le g HBW.out.size, HBW.out.block b g⟩ : Ints (Lo wr.heap.size) wr d.ar Q.arp m)
    · omega
    obtain ⟨b2, o2, hp2, g2, l2, c2⟩ := (HPS.out.below RFld.map HBW.out).rows (by omega)
    obtain ⟨f, hfs, hat, hR⟩ := c2.out k hkp
    have a0 := c1.out k hkl
    obtain ⟨n, hn⟩ : ∃ n, d.ar[k] = n := ⟨_, rfl⟩
    obtain ⟨y, hy⟩ : ∃ y, r.ps[k] = y := ⟨_, rfl⟩
    rw [hn] at a0 HX1
    rw [hy] at hR HX2
    have a1 := hat.get (r := 1) (v := .int .i64 y.ty) (by rw [hR]; rfl)
    obtain ⟨q, hq⟩ : ∃ q, fits y.ty n = q := ⟨_, rfl⟩
    have CF := Lib.hid (fun W => (show Calls Tryz.prog 56 #[.int .i64 y.ty, .int .i64 n] W (Stay (.bool q) W) by rw [← hq]; exact fits_any _ _ W))
    rw [hp1, hp2]
    cases q with
    | false =>
     have HN := Lib.hid (fitL_stop HX2.out HX1.out hq)
     clear h1 h2 c1 c2 hfs hat hR hkl hkp hn hy hq g1 g2 hp1 hp2
     go_wp2_with fail
     refine (CF.out _).mono ?_
     rintro e v2 ⟨rfl, rfl⟩
     go_wp2_with fail
     go_ret
     exact ⟨by rw [← HV.out, HN.out]; rfl, by have HBB := HBW.out; exact bl⟩
    | true =>
     have HN := Lib.hid (fitL_take HX2.out HX1.out HA.out hq)
     clear h1 h2 c1 c2 hfs hat hR hkl hkp hn hy hq g1 g2
     go_wp2_with fail
     refine (CF.out _).mono ?_
     rintro e v2 ⟨rfl, rfl⟩
     go_wp2_with fail
     go_roundw
     case rel => exact ⟨k + 1, by omega, by go_num, Lib.hid (by have HBB := HW.out; exact bl), HN⟩
     case measure => simp [intOf]; omega
  · obtain rfl : m = k := by omega
    have HT := Lib.hid (show fitL r.ps d.ar = true by have h1 := HA.out; rwa [List.take_of_length_le (by rw [HPL.out]; exact Nat.le_refl _), List.take_of_length_le (by rw [HAL.out]; exact Nat.le_refl _)] at h1)
    obtain ⟨t1, h1⟩ : ∃ t, isT d.a = t := ⟨_, rfl⟩
    obtain ⟨t2, h2⟩ : ∃ t, isT d.e = t := ⟨_, rfl⟩
    obtain ⟨t3, h3⟩ : ∃ t, isT d.u = t := ⟨_, rfl⟩
    have HE := HV.out
    rw [HT.out, h1, h2, h3] at HE
    have HV2 := Lib.hid HE
    have T1 := Lib.hid (fun W => time_gives h1 W)
    have T2 := Lib.hid (fun W => time_gives h2 W)
    have T3 := Lib.hid (fun W => time_gives h3 W)
    clear h1 h2 h3 HT HE HV
    obtain ⟨q1, q2, q3, q4, q5⟩ := FY.out wr (by have HBB := HW.out; exact bl)
    cases t1 with
    | false =>
     go_wp2_with fail
     refine (T1.out _).mono ?_
     exact zQStr_1
    | true =>
     cases t2 with
     | false =>
      go_wp2_with fail
      refine (T1.out _).mono ?_
      rintro e v2 ⟨rfl, rfl⟩
      go_wp2_with fail
      refine (T2.out _).mono ?_
      exact zQStr_1
     | true =>
      cases t3 with
      | false =>
       exact zQStr_0
      | true =>
       by_cases he : d.e = 0
       · have he1 : (d.e == 0) = true := beq_iff_eq.2 he
         rw [decide_eq_true he] at HV2
         by_cases hu : d.u = 0
         · have hu1 : (d.u != 0) = false := by rw [hu]; rfl
           rw [decide_eq_true hu] at HV2
           clear he hu
           exact zQStr_0
         · have hu1 : (d.u != 0) = true := bne_iff_ne.2 hu
           rw [decide_eq_false hu] at HV2
           clear he hu
           exact zQStr_0
       · have he1 : (d.e == 0) = false := beq_eq_false_iff_ne.2 he
         rw [decide_eq_false he] at HV2
         clear he
         exact zQStr_0
end Go.Proofs.YtaaffmbnhjaebaaGreat.Md
namespace Go.Proofs.YtaaffmbnhjaebaaGreat.Md
open Go.RowKit Go.Maps
open Go.Proofs.YtaaffmbnhjaebaaGreat.Sm (orE orE_no orE_yes)
open Go.Proofs.YtaaffmbnhjaebaaGreat.Ex (Lo Gives)
attribute [local go_sem] cLw0 cLw1 cLw2 cSte12 cSte11 cMdl0 cMdl1 cMdl2 cMdl3
set_option maxHeartbeats 4000000
set_option linter.unusedVariables false
theorem zQLws_0 {p : Prop} (h : p := by
 clear HE
 go_enter Tryz.func140, Tryz.ntmps140
 go_wp2_with fail
 refine (CT.out _ bl (FX.out _ (Below.refl _ _)).1).mono ?_
 rintro e v1 ⟨rfl, hb1⟩
 have q := FY.out v1 bl
 go_wp2_with fail
 refine (CN.out _).mono ?_
 rintro e v3 ⟨rfl, rfl⟩
 go_wp2_with fail
 go_ret
 exact ⟨rfl, bl⟩
 ) : p := h
set_option maxRecDepth 100000 in
theorem checkLaw_any (hK : KindC) (x : Ste) (P : PSte) (l : Lw) (Q : PLw) (w : World) (hx : OSte (Lo w.heap.size) w x P) (hl : OLw (Lo w.heap.size) w l Q) : Calls Tryz.prog 140 #[.agg (cSte x P), .agg (cLw l Q)] w (Gives (.int .i64 (lawT x l)) w) := by
 have HX := Lib.hid hx
 have HL := Lib.hid hl
 have FX := far2 (w := w) 42 57 (cSte x P) (cLw l Q)
 obtain ⟨hlm, hm⟩ := hl.ts.len
 by_cases h0 : Q.tsm = 0
 · rw [show lawT x l = 7 by unfold lawT; rw [if_pos (by omega)]]
   have d0 : ((Q.tsm : Int) == 0) = true := by rw [h0]; rfl
   clear hx hl hlm hm h0
   go_enter Tryz.func140, Tryz.ntmps140
   go_wp2_with fail
   go_ret
   exact ⟨rfl, bl⟩
 have d0 : ((Q.tsm : Int) == 0) = false := beq_eq_false_iff_ne.2 (by omega)
 obtain ⟨v, hv⟩ : ∃ v, lstE (trmE x) 8 l.ts = v := ⟨_, rfl⟩
 obtain ⟨r, hr⟩ : ∃ v, btw (-1000000000000) l.tt 1000000000000 = v := ⟨_, rfl⟩
 have CT := Lib.hid (fun W (hW : Below w.heap.size w W) (hB : Box W w.heap.size 42 (cSte x P)) => (show Calls Tryz.prog 155 #[.slice Q.tsp Q.tsm Q.tsc, .int .i64 8, .func (.func 156) #[] #[.pointer (some ⟨w.heap.size, 0, none⟩)]] W (Gives (.int .i64 v) W) by
  rw [← hv]; exact terms_any hK x P w HX.out HL.out.ts w.heap.size W hW hB))
 have CN := Lib.hid (fun W => (show Calls Tryz.prog 97 #[.int .i64 l.tt] W (Stay (.bool r) W) by rw [← hr]; exact in_any _ W))
 have HE : Hid (lawT x l = orE v (if r then 0 else 2)) := Lib.hid (by unfold lawT; rw [if_neg (by omega), hv, hr])
 clear hx hl hlm hm h0 hv hr hK
 by_cases hv0 : v = 0
 rotate_left 1
 · rw [show lawT x l = v by rw [HE.out, orE_no hv0]]
   have t1 : (v != 0) = true := bne_iff_ne.2 hv0
   clear HE
   go_enter Tryz.func140, Tryz.ntmps140
   go_wp2_with fail
   refine (CT.out _ bl (FX.out _ (Below.refl _ _)).1).mono ?_
   rintro e v1 ⟨rfl, hb1⟩
   go_wp2_with fail
   go_ret
   exact ⟨rfl, bl⟩
 subst hv0
 have FY : Hid (∀ W, Below ((w.alloc (.cells (cSte x P) 42)).alloc (.cells (cLw l Q) 57)).heap.size ((w.alloc (.cells (cSte x P) 42)).alloc (.cells (cLw l Q) 57)) W → W.cell? ⟨w.heap.size + 1, 2, none⟩ = some (.int .i64 l.tt)) := Lib.hid fun W hb => (FX.out W hb).2.get (cLw2 l Q)
 cases r with
 | false =>
  rw [show lawT x l = 2 by rw [HE.out, orE_yes]; rfl]
  exact zQLws_0
 | true =>
  rw [show lawT x l = 0 by rw [HE.out, orE_yes]; rfl]
  exact zQLws_0
def Gives' (w0 : World) (v : Value) (e : Ending) (w' : World) : Prop := e = .returned v ∧ Below w0.heap.size w0 w'
theorem OSte.below {B : Nat} {w w2 : World} (hb : Below B w w2) {x : Ste} {P : PSte} (h : OSte (Lo B) w x P) : OSte (Lo B) w2 x P := h.map hb.size fun b g _ => ⟨g, hb.block b g⟩
theorem OSte.up {B : Nat} {w : World} (hs : B ≤ w.heap.size) {x : Ste} {P : PSte} (h : OSte (Lo B) w x P) : OSte (Lo w.heap.size) w x P := h.map (Nat.le_refl _) fun b g _ => ⟨Nat.lt_of_lt_of_le g hs, rfl⟩
theorem OLw.below {B : Nat} {w w2 : World} (hb : Below B w w2) {x : Lw} {P : PLw} (h : OLw (Lo B) w x P) : OLw (Lo B) w2 x P := h.map hb.size fun b g _ => ⟨g, hb.block b g⟩
theorem OLw.up {B : Nat} {w : World} (hs : B ≤ w.heap.size) {x : Lw} {P : PLw} (h : OLw (Lo B) w x P) : OLw (Lo w.heap.size) w x P := h.map (Nat.le_refl _) fun b g _ => ⟨Nat.lt_of_lt_of_le g hs, rfl⟩
theorem laws_each (hK : KindC) (x : Ste) (P : PSte) (w0 : World) (hx : OSte (Lo w0.heap.size) w0 x P) (hz : ∀ l ∈ x.la, l.nm.size ≤ 9223372036854775807) (b B1 B2 : Nat) (hb : w0.heap.size ≤ b) (h1 : B1 ≠ b) (h2 : B2 ≠ b) (W : World)
 (hW : Sco w0 b (fun V => V.cell? ⟨B1, 0, none⟩ = some (.map (some b)) ∧ Box V B2 42 (cSte x P)) [] W) :
 Calls Tryz.prog 138 #[.slice P.lap P.lam P.lac, .int .i64 ((32 : Nat) : Int), .func (.func 139) #[] #[.pointer (some ⟨B1, 0, none⟩), .pointer (some ⟨B2, 0, none⟩)]] W (fun e W2 => e = .returned (.int .i64 (lawsE x)) ∧ Below w0.heap.size w0 W2) := by
 have hSt : Stb b (fun V => V.cell? ⟨B1, 0, none⟩ = some (.map (some b)) ∧ Box V B2 42 (cSte x P)) := fun V V2 h hbt => ⟨cell_but hbt h.1 h1, h.2.but hbt h2⟩
 refine (each_Lw (Lib.hid hx.la) #[] #[.pointer (some ⟨B1, 0, none⟩), .pointer (some ⟨B2, 0, none⟩)] _ (Lib.hid (Sco.fine hb hSt)) (fun a l => stepN a (lawP x l)) 32 (by omega) [] (Lib.hid fun k s l c V hxk hm hg hR hI => ?_) W (Lib.hid hW)).mono fun e W2 h => ?_
 · rw [arg1b]
   obtain ⟨Q, rfl, hQ⟩ := hR
   have hsh := go_short hm hg
   refine (clo_Lw l Q b B1 s V hI.scp (by simp at hsh; omega) (hz l (List.mem_of_getElem? hxk)) hI.k.1 h1 B2 (cSte x P) (cSte_size x P) hI.k.2 h2 (lawT x l) (Lib.hid fun V2 hbt => ?_)).mono fun e W2 h => hI.step hb hSt h
   have hb2 : Below w0.heap.size w0 V2 := But.below hI.below hbt hb hI.below.size
   have hle : w0.heap.size ≤ V2.heap.size := hb2.size
   have hv2 : Below w0.heap.size V V2 := ⟨hbt.os, hbt.tape, hbt.output, hbt.size, fun k hk => hbt.block k (Nat.lt_of_lt_of_le hk hI.below.size) (by omega)⟩
   exact checkLaw_any hK x P l Q V2 ((hx.below hb2).up hle) ((hQ.below hv2).up hle)
 · obtain ⟨h3, h4⟩ := h
   refine ⟨?_, h4.below⟩
   rw [h3]
   unfold lawsE
   rw [eachE_map]
theorem scp_made {w : World} {n : Nat} (h : w.heap.size = n) : Scp n [] (w.alloc (.map #[] 0)) := by subst h; exact World.ownsMap_made _ _ _ _
theorem pcp_made {w : World} {n : Nat} (h : w.heap.size = n) : Pcp n [] (w.alloc (.map #[] 0)) := by subst h; exact ⟨World.ownsMap_made _ _ _ _, fun p hp => by cases hp⟩
set_option maxRecDepth 100000 in
theorem checkLaws_any (hK : KindC) (x : Ste) (P : PSte) (w : World) (hx : OSte (Lo w.heap.size) w x P) (hz : ∀ l ∈ x.la, l.nm.size ≤ 9223372036854775807) : Calls Tryz.prog 115 #[.agg (cSte x P)] w (Gives (.int .i64 (lawsE x)) w) := by
 have FX := far (w := w) 42 (cSte x P)
 have hmm := @run_makeMap Tryz.prog
 obtain ⟨v, hv⟩ : ∃ v, lawsE x = v := ⟨_, rfl⟩
 have CE := Lib.hid (fun W (h1 : Below w.heap.size w W) (h2 : Scp (w.heap.size + 1) [] W) (h3 : W.cell? ⟨w.heap.size + 1 + 1, 0, none⟩ = some (.map (some (w.heap.size + 1)))) (h4 : Box W w.heap.size 42 (cSte x P)) => (show Calls Tryz.prog 138 #[.slice P.lap P.lam P.lac, .int .i64 32, .func (.func 139) #[] #[.pointer (some ⟨w.heap.size + 1 + 1, 0, none⟩), .pointer (some ⟨w.heap.size, 0, none⟩)]] W (Gives' w (.int .i64 v)) by
  rw [← hv]
  exact laws_each hK x P w hx hz (w.heap.size + 1) (w.heap.size + 1 + 1) w.heap.size (by omega) (by omega) (by omega) W ⟨h1, h2, h3, h4⟩))
 rw [hv]
 clear hx hv hz hK
 go_enter Tryz.func115, Tryz.ntmps115
 go_wp2_with fail
 refine (CE.out _ bl ((scp_made (w := w.alloc (.cells (cSte x P) 42)) (n := w.heap.size + 1) (by simp)).on bl) (by go_simp) (FX.out _ bl)).mono ?_
 rintro e v1 ⟨rfl, hb1⟩
 go_wp2_with fail
 go_ret
 exact ⟨rfl, hb1⟩
structure Pco (w0 : World) (b : Nat) (K : World → Prop) (acc : List (List UInt8 × List UInt8)) (W : World) : Prop where
 below : Below w0.heap.size w0 W
 scp : Pcp b acc W
 k : K W
theorem Pco.fine {w0 : World} {b : Nat} {K : World → Prop} (hb : w0.heap.size ≤ b) (hK : Stb b K) : Fine w0 (Pco w0 b K) where
 below _ _ h := h.below
 on s W W2 h hW := ⟨h.below.trans (hW.mono h.below.size), h.scp.on hW, hK W W2 h.k (But.of hW)⟩
theorem stepK_len (si : List Ste) (acc : List (List UInt8 × List UInt8)) (l : Lnk) : (stepK si acc l).2.length ≤ acc.length + 1 := by
 unfold stepK; split
 · split <;> simp
 · simp
theorem goK_len {si : List Ste} : ∀ {l : List Lnk} {s : List (List UInt8 × List UInt8)}, (goE (stepK si) l s).2.length ≤ s.length + l.length
 | [], s => by simp [goE]
 | x :: t, s => by
  have h1 := stepK_len si s x
  rw [goE]
  split
  · have h2 := goK_len (si := si) (l := t) (s := (stepK si s x).2)
    rw [List.length_cons]
    omega
  · rw [List.length_cons]
    omega
theorem links_each (M : Mdl) (PM : PMdl) (w0 : World) (hx : OMdl (Lo w0.heap.size) w0 M PM) (hz : ∀ l ∈ M.li, l.fr.size ≤ 1000000000 ∧ l.tt.size ≤ 1000000000) (b B1 B2 : Nat) (hb : w0.heap.size ≤ b) (h1 : B1 ≠ b) (h2 : B2 ≠ b) (W : World)
 (hW : Pco w0 b (fun V => V.cell? ⟨B1, 0, none⟩ = some (.map (some b)) ∧ Box V B2 26 (cMdl M PM)) [] W) :
 Calls Tryz.prog 60 #[.slice PM.lip PM.lim PM.lic, .int .i64 ((32 : Nat) : Int), .func (.func 61) #[] #[.pointer (some ⟨B2, 0, none⟩), .pointer (some ⟨B1, 0, none⟩)]] W (fun e W2 => e = .returned (.int .i64 (lnksE M)) ∧ Below w0.heap.size w0 W2) := by
 have hSt : Stb b (fun V => V.cell? ⟨B1, 0, none⟩ = some (.map (some b)) ∧ Box V B2 26 (cMdl M PM)) := fun V V2 h hbt => ⟨cell_but hbt h.1 h1, h.2.but hbt h2⟩
 refine (each_Lnk (Lib.hid hx.li) #[] #[.pointer (some ⟨B2, 0, none⟩), .pointer (some ⟨B1, 0, none⟩)] _ (Lib.hid (Pco.fine hb hSt)) (stepK M.si) 32 (by omega) [] (Lib.hid fun k s l c V hxk hm hg hR hI => ?_) W (Lib.hid hW)).mono fun e W2 h => ?_
 · rw [arg1b, show c = cLnk l from hR]
   have hl := goK_len (si := M.si) (l := M.li.take k) (s := [])
   rw [hg, List.length_take] at hl
   have hle : s.length ≤ 0 + min k M.li.length := hl
   have hz2 := hz l (List.mem_of_getElem? hxk)
   refine (clo_Lnk l M PM b B1 B2 s V hI.scp (by omega) hz2.1 hz2.2 hI.k.1 hI.k.2 ?_).mono fun e W2 h => ?_
   · exact hx.si.map RSte.map hI.below.size fun bb g _ => ⟨Nat.lt_of_lt_of_le g hI.below.size, hI.below.block bb g⟩
   · exact ⟨h.1, ⟨But.below hI.below h.2.2 hb hI.below.size, h.2.1, hSt _ _ hI.k h.2.2⟩⟩
 · exact ⟨h.1, h.2.below⟩
set_option maxRecDepth 100000 in
theorem checkLinks_any (M : Mdl) (PM : PMdl) (w : World) (hx : OMdl (Lo w.heap.size) w M PM) (hz : ∀ l ∈ M.li, l.fr.size ≤ 1000000000 ∧ l.tt.size ≤ 1000000000) : Calls Tryz.prog 31 #[.agg (cMdl M PM)] w (Gives (.int .i64 (lnksE M)) w) := by
 have FX := far (w := w) 26 (cMdl M PM)
 have hmm := @run_makeMap Tryz.prog
 obtain ⟨v, hv⟩ : ∃ v, lnksE M = v := ⟨_, rfl⟩
 have CE := Lib.hid (fun W (h1 : Below w.heap.size w W) (h2 : Pcp (w.heap.size + 1) [] W) (h3 : W.cell? ⟨w.heap.size + 1 + 1, 0, none⟩ = some (.map (some (w.heap.size + 1)))) (h4 : Box W w.heap.size 26 (cMdl M PM)) => (show Calls Tryz.prog 60 #[.slice PM.lip PM.lim PM.lic, .int .i64 32, .func (.func 61) #[] #[.pointer (some ⟨w.heap.size, 0, none⟩), .pointer (some ⟨w.heap.size + 1 + 1, 0, none⟩)]] W (Gives' w (.int .i64 v)) by
  rw [← hv]
  exact links_each M PM w hx hz (w.heap.size + 1) (w.heap.size + 1 + 1) w.heap.size (by omega) (by omega) (by omega) W ⟨h1, h2, h3, h4⟩))
 rw [hv]
 clear hx hv hz
 go_enter Tryz.func31, Tryz.ntmps31
 go_wp2_with fail
 refine (CE.out _ bl ((pcp_made (w := w.alloc (.cells (cMdl M PM) 26)) (n := w.heap.size + 1) (by simp)).on bl) (by go_simp) (FX.out _ bl)).mono ?_
 rintro e v1 ⟨rfl, hb1⟩
 go_wp2_with fail
 go_ret
 exact ⟨rfl, hb1⟩
theorem OSta.below {B : Nat} {w w2 : World} (hb : Below B w w2) {x : Sta} {P : PSta} (h : OSta (Lo B) w x P) : OSta (Lo B) w2 x P := h.map hb.size fun b g _ => ⟨g, hb.block b g⟩
theorem OSta.up {B : Nat} {w : World} (hs : B ≤ w.heap.size) {x : Sta} {P : PSta} (h : OSta (Lo B) w x P) : OSta (Lo w.heap.size) w x P := h.map (Nat.le_refl _) fun b g _ => ⟨Nat.lt_of_lt_of_le g hs, rfl⟩
set_option maxRecDepth 100000 in
theorem cloS_any (x : Ste) (P : PSte) (d : Sta) (Q : PSta) (B : Nat) (w : World) (hx : Rw 4 RRou (Lo w.heap.size) w x.ro P.rop P.rom) (hd : OSta (Lo w.heap.size) w d Q) (hB : Box w B 42 (cSte x P)) : Calls Tryz.prog 113 #[.agg (cSta d Q), .pointer (some ⟨B, 0, none⟩)] w (Gives (.int .i64 (staE x.ro d)) w) := by
 have HX := Lib.hid hx
 have HD := Lib.hid hd
 obtain ⟨n13, hn13⟩ : ∃ n : Nat, 13 = n := ⟨_, rfl⟩
 have hsz13 : ∀ w, (sizeOf 42).run Tryz.prog w = .ok n13 w := fun w => by rw [Tryz.sizeOf42, hn13]
 have HN13 := Lib.hid hn13
 obtain ⟨n5, hn5⟩ : ∃ n : Nat, 5 = n := ⟨_, rfl⟩
 have hsz5 : ∀ w, (sizeOf 105).run Tryz.prog w = .ok n5 w := fun w => by rw [Tryz.sizeOf105, hn5]
 have ld := (hB.on (show Below w.heap.size w (w.alloc (.cells (cSta d Q) 105)) by exact bl)).cell.ldN HN13.out
 have ld5 := fun W => run_loadCellsFrom_new (P := Tryz.prog) W 105 (cSta d Q) n5 (by rw [cSta_size]; exact hn5)
 obtain ⟨V, hV⟩ : ∃ v, staE x.ro d = v := ⟨_, rfl⟩
 have CT := Lib.hid (fun W (hW : Below w.heap.size w W) => (show Calls Tryz.prog 114 #[.agg (cSte x P), .agg (cSta d Q)] W (Gives (.int .i64 V) W) by rw [← hV]; exact checkStart_any x P d Q W (HX.out.on RRou.map hW) (HD.out.on hW)))
 rw [hV]
 clear hx hd hB hn13 hn5 hV
 go_enter Tryz.func113, Tryz.ntmps113
 go_wp2_with fail
 refine (CT.out _ bl).mono ?_
 rintro e v1 ⟨rfl, hb1⟩
 go_wp2_with fail
 go_ret
 exact ⟨rfl, bl⟩
theorem starts_any (x : Ste) (P : PSte) (w0 : World) (hx : OSte (Lo w0.heap.size) w0 x P) (B : Nat) (W : World) (hW : Below w0.heap.size w0 W) (hB : Box W B 42 (cSte x P)) :
 Calls Tryz.prog 112 #[.slice P.ssp P.ssm P.ssc, .int .i64 ((32 : Nat) : Int), .func (.func 113) #[] #[.pointer (some ⟨B, 0, none⟩)]] W (fun e W2 => e = .returned (.int .i64 (lstE (staE x.ro) 32 x.ss)) ∧ Below W.heap.size W W2) := by
 have F : Fine w0 (fun (_ : Unit) V => Below W.heap.size W V) := ⟨fun _ V h => hW.trans (h.mono hW.size), fun _ V V2 h h2 => h.trans (h2.mono h.size)⟩
 refine (each_Sta (Lib.hid hx.ss) #[] #[.pointer (some ⟨B, 0, none⟩)] (fun (_ : Unit) V => Below W.heap.size W V) (Lib.hid F) (fun _ d => (staE x.ro d, ())) 32 (by omega) () (Lib.hid fun k s d c V hx2 hm hg hR hI => ?_) W (Lib.hid (Below.refl _ _))).mono fun e W2 h => ?_
 · rw [arg1]
   obtain ⟨Q, rfl, hQ⟩ := hR
   have h0 : Below w0.heap.size w0 V := hW.trans (hI.mono hW.size)
   exact (cloS_any x P d Q B V (hx.ro.map RRou.map h0.size fun b g _ => ⟨Nat.lt_of_lt_of_le g h0.size, h0.block b g⟩) (hQ.up h0.size) (hB.on hI)).mono fun e W2 h => ⟨h.1, hI.trans (h.2.mono hI.size)⟩
 · obtain ⟨h1, h2⟩ := h
   rw [eachE_pure] at h1
   exact ⟨h1, h2⟩
end Go.Proofs.YtaaffmbnhjaebaaGreat.Md
