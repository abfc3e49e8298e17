/-
  Parts of this proof: The law of Names.
-/
import Derived.Test.YtaaffmbnhjaebaaGreatZQRrkxabc
import Derived.Test.YtaaffmbnhjaebaaGreatZNmMathxc
import Derived.Test.YtaaffmbnhjaebaaGreatZQLw1xacde
set_option linter.unusedSimpArgs false
namespace Go.Proofs.YtaaffmbnhjaebaaGreat.Md
open Go.RowKit Go.Maps
open Go.Proofs.YtaaffmbnhjaebaaGreat.Ex (Lo Gives block_lt)
set_option maxHeartbeats 8000000
set_option linter.unusedVariables false
theorem zQLw3c_0 {p : Prop} (h : p := by kernel_rfl) : p := h
theorem zQLw3c_1 {p : Prop} (h : p := by assumption) : p := h
theorem zQLw3c_2 {p : Prop} (h : p := by have h := HU.out; have h2 := HB7.out; exact bl) : p := h
set_option maxRecDepth 100000 in
theorem modelNames_walk (x : Mdl) (P : PMdl) (w : World) (hx : OMdl (Lo w.heap.size) w x P) (hf : Fit x) : Calls Tryz.prog 5 #[.agg (cMdl x P)] w (Gives (.bool true) w) := by
 have HX := Lib.hid hx
 have HI := Lib.hid hx.si
 have HJ := Lib.hid hx.li
 obtain ⟨hil, him⟩ := hx.si.len
 obtain ⟨hjl, hjm⟩ := hx.li.len
 have HNw := Lib.hid hf.n
 have FX := far (w := w) 26 (cMdl x P)
 obtain ⟨n4, hn4⟩ : ∃ n : Nat, 4 = n := ⟨_, rfl⟩
 have hsz4 : ∀ w, (sizeOf 26).run Tryz.prog w = .ok n4 w := fun w => by rw [Tryz.sizeOf26, hn4]
 have HN4 := Lib.hid hn4
 obtain ⟨ms, hms⟩ : ∃ n, P.sim = n := ⟨_, rfl⟩
 obtain ⟨ml, hml⟩ : ∃ n, P.lim = n := ⟨_, rfl⟩
 have FM : Hid (∀ W, Below (w.alloc (.cells (cMdl x P) 26)).heap.size (w.alloc (.cells (cMdl x P) 26)) W → (loadCellsFrom ⟨w.heap.size, 0, none⟩ 0 n4 #[]).run Tryz.prog W = .ok (cMdl x P) W) := Lib.hid fun W hb => (FX.out W hb).cell.ldN (by rw [cMdl_size]; exact hn4)
 have FK : Hid (∀ W, Below (w.alloc (.cells (cMdl x P) 26)).heap.size (w.alloc (.cells (cMdl x P) 26)) W → W.cell? ⟨w.heap.size, 2, none⟩ = some (.slice P.sip ms P.sic) ∧ W.cell? ⟨w.heap.size, 3, none⟩ = some (.slice P.lip ml P.lic)) := Lib.hid fun W hb => ⟨by rw [← hms]; exact (FX.out W hb).get (cMdl2 x P), by rw [← hml]; exact (FX.out W hb).get (cMdl3 x P)⟩
 rw [hms] at hil him HI
 rw [hml] at hjl hjm HJ
 have HIL := Lib.hid hil
 have HJL := Lib.hid hjl
 have ld0 := FM.out (w.alloc (.cells (cMdl x P) 26)) (Below.refl _ _)
 obtain ⟨lb, hlb⟩ : ∃ b, lightB x = b := ⟨_, rfl⟩
 obtain ⟨v, hv⟩ : ∃ v, mdlE x = v := ⟨_, rfl⟩
 have CL := Lib.hid (fun W (hW : Below w.heap.size w W) => light_at hlb W (HX.out.on hW) hf)
 have C1 := Lib.hid (fun W (hW : Below w.heap.size w W) => chkX_at hv W (HX.out.on hW) hf)
 have t3 : (ms : Int) ≤ 9223372036854775807 := by omega
 have t4 : (ml : Int) ≤ 9223372036854775807 := by omega
 have HV := Lib.hid hv
 clear hx hf hn4 hlb hv hil him hjl hjm hms hml
 cases lb with
 | false =>
  go_enter Tryz.func5, Tryz.ntmps5
  go_wp2_with fail
  refine (CL.out _ bl).mono ?_
  rintro e w1 ⟨rfl, hb1⟩
  go_wp2_with fail
  refine (awake_any _).mono ?_
  rintro e wz ⟨rfl, hbz⟩
  go_wp2_with fail
  go_ret
  exact ⟨rfl, bl⟩
 | true =>
  go_enter Tryz.func5, Tryz.ntmps5
  go_wp2_with fail
  refine (CL.out _ bl).mono ?_
  rintro e w1 ⟨rfl, hb1⟩
  have HB1 : Hid (Below (w.alloc (.cells (cMdl x P) 26)).heap.size (w.alloc (.cells (cMdl x P) 26)) w1) := Lib.hid bl
  have ld1 := FM.out w1 HB1.out
  clear ld0 hb1
  by_cases hv0 : v = 0
  rotate_left 1
  · have t1 : (v != 0) = true := bne_iff_ne.2 hv0
    go_wp2_with fail
    refine (C1.out _ (by have h := HB1.out; exact bl)).mono ?_
    rintro e w2 ⟨rfl, hb2⟩
    go_wp2_with fail
    refine (awake_any _).mono ?_
    rintro e wz ⟨rfl, hbz⟩
    go_wp2_with fail
    go_ret
    exact ⟨rfl, by have h := HB1.out; exact bl⟩
  · subst hv0
    have HM := Lib.hid (mdlE_zero.1 HV.out)
    go_wp2_with fail
    refine (C1.out _ (by have h := HB1.out; exact bl)).mono ?_
    rintro e w2 ⟨rfl, hb2⟩
    have HB2 : Hid (Below (w.alloc (.cells (cMdl x P) 26)).heap.size (w.alloc (.cells (cMdl x P) 26)) w2) := Lib.hid (by have h := HB1.out; exact bl)
    clear ld1 hb2
    have FW := far (w := w2) 9 #[.string tVar, .string tRes, .string tSto, .string tBlt, .string tQue, .string tStr, .string tTal, .string tLev, .string tCnt, .string tRou]
    have HWW := Lib.hid (show Below w2.heap.size w2 (w2.alloc (.cells #[.string tVar, .string tRes, .string tSto, .string tBlt, .string tQue, .string tStr, .string tTal, .string tLev, .string tCnt, .string tRou] 9)) by exact bl)
    go_wp2_with fail
    go_loopw [4] (fun i wr => ∃ k : Nat, k ≤ ms ∧ i = .int .i64 (k : Nat) ∧ Hid (Below (w2.alloc (.cells #[.string tVar, .string tRes, .string tSto, .string tBlt, .string tQue, .string tStr, .string tTal, .string tLev, .string tCnt, .string tRou] 9)).heap.size (w2.alloc (.cells #[.string tVar, .string tRes, .string tSto, .string tBlt, .string tQue, .string tStr, .string tTal, .string tLev, .string tCnt, .string tRou] 9)) wr)) (fun i _ => ms - (intOf i).toNat)
    case atStart => exact ⟨0, Nat.zero_le _, rfl, Lib.hid bl⟩
    case round =>
     obtain ⟨wi, rfl⟩ : ∃ u, u = wr := ⟨_, rfl⟩
     obtain ⟨k, hk, rfl, HW⟩ := hrel
     have k0 : (0 : Int) ≤ (k : Int) := by omega
     have hw2 : Below w2.heap.size w2 wi := HWW.out.trans (HW.out.mono HWW.out.size)
     have HBQ : Hid (Below (w.alloc (.cells (cMdl x P) 26)).heap.size (w.alloc (.cells (cMdl x P) 26)) wi) := Lib.hid (HB2.out.trans (hw2.mono HB2.out.size))
     have HBW : Hid (Below w.heap.size w wi) := Lib.hid (by have h := HBQ.out; exact bl)
     clear hw2
     obtain ⟨g2, g3⟩ := FK.out wi HBQ.out
     rcases Nat.lt_or_ge k ms with h | h
     · have k1 : (k : Int) < (ms : Int) := by omega
       have hkl : k < x.si.length := by rw [HIL.out]; exact h
       obtain ⟨kk, hkk⟩ : ∃ n : Nat, 13 = n := ⟨_, rfl⟩
       have hsz13 : ∀ w, (sizeOf 42).run Tryz.prog w = .ok kk w := fun w => by rw [Tryz.sizeOf42, hkk]
       have HKK := Lib.hid hkk
       clear hkk
       obtain ⟨b, o, hp, hbG, hG, hcell⟩ := (HI.out.on RSte.map HBW.out).rows (by omega)
       obtain ⟨d, hds, hat, hR⟩ := hcell.out k hkl
       obtain ⟨y, hy⟩ : ∃ y, x.si[k] = y := ⟨_, rfl⟩
       have HX2 := Lib.hid (show x.si[k]? = some y by rw [← hy]; exact List.getElem?_eq_getElem hkl)
       have HMy := Lib.hid (show y ∈ x.si by rw [← hy]; exact List.getElem_mem hkl)
       have HNy := Lib.hid (HNw.out y HMy.out)
       have HTy := Lib.hid (show siteT y = 0 from (sites_ok HM.out.2.2.1).2.2.2 y HMy.out)
       rw [hy] at hR
       obtain ⟨Q, rfl, hQ⟩ := hR
       have HQ := Lib.hid hQ
       rw [hp] at g2
       have a0 := (hat.at HKK.out).get (r := 0) (v := .string y.nm) (cSte0 y Q)
       rw [Nat.add_zero] at a0
       have FR : Hid (∀ W, Below wi.heap.size wi W → (loadCellsFrom ⟨w.heap.size, 0, none⟩ 0 n4 #[]).run Tryz.prog W = .ok (cMdl x P) W ∧ W.cell? ⟨w.heap.size, 2, none⟩ = some (.slice (some ⟨b, o, none⟩) ms P.sic) ∧ W.cell? ⟨b, o + k * kk, none⟩ = some (.string y.nm) ∧ (loadCellsFrom ⟨b, o + k * kk, none⟩ 0 kk #[]).run Tryz.prog W = .ok (cSte y Q) W) := Lib.hid fun W hW => ⟨FM.out W (HBQ.out.trans (hW.mono HBQ.out.size)), (hW.cell (p := ⟨w.heap.size, 2, none⟩) (block_lt g2)).trans g2, (hW.cell (p := ⟨b, o + k * kk, none⟩) (block_lt a0)).trans a0, ((hat.on hW hG).at HKK.out).ldN (by rw [hds]; exact HKK.out)⟩
       have CS := Lib.hid (fun W (hW : Below wi.heap.size wi W) => (show Calls Tryz.prog 14 #[.agg (cMdl x P), .string y.nm] W (Gives (.int .i64 (k : Nat)) W) by have h := site_any x P y.nm W (HX.out.on (HBW.out.trans (hW.mono HBW.out.size))).si; rwa [site_at HM.out.2.2.1 HX2.out] at h))
       have CN := Lib.hid (fun W (hW : Below wi.heap.size wi W) => names_any y Q W (HQ.out.on hW) HNy.out.nz)
       have t5 : ((k : Int) != (k : Int)) = false := by rw [bne, beq_self_eq_true]; rfl
       have HNL := Lib.hid (show (names y).length = 10 from rfl)
       clear hcell hds hat hy hkl hQ hbG hG hp a0
       go_wp2_with fail
       clear g2 g3
       go_region_held3 (fun W => (loadCellsFrom ⟨w.heap.size, 0, none⟩ 0 n4 #[]).run Tryz.prog W = .ok (cMdl x P) W ∧ W.cell? ⟨w.heap.size, 2, none⟩ = some (.slice (some ⟨b, o, none⟩) ms P.sic) ∧ W.cell? ⟨b, o + k * kk, none⟩ = some (.string y.nm) ∧ (loadCellsFrom ⟨b, o + k * kk, none⟩ 0 kk #[]).run Tryz.prog W = .ok (cSte y Q) W) (first | (refine FR.out _ ?_; exact bl; done) | (go_keep; done)) (first
        | (go_at_call 14; refine (CS.out _ bl).mono ?_; rintro e w3 ⟨rfl, hb3⟩))
       all_goals
        have HB3 : Hid (Below wi.heap.size wi w3) := Lib.hid bl
        obtain ⟨f0, f1, f2, f3⟩ := FR.out w3 HB3.out
        clear hb3 f0
        go_wp2_with fail
        refine (CN.out _ HB3.out).mono ?_
        rintro e w4 ⟨B, rfl, hB, hb4, hN⟩
        have HN := Lib.hid hN
        have HB4 : Hid (Below wi.heap.size wi w4) := Lib.hid (by have h := HB3.out; exact bl)
        clear hN hB hb4 f1 f2 f3
        go_wp2_with fail
        go_loopw [6] (fun i wv => ∃ j : Nat, j ≤ 10 ∧ i = .int .i64 (j : Nat) ∧ Hid (Below w4.heap.size w4 wv)) (fun i _ => 10 - (intOf i).toNat)
        case atStart => exact ⟨0, Nat.zero_le _, rfl, Lib.hid (Below.refl _ _)⟩
        case round =>
         obtain ⟨wv, rfl⟩ : ∃ u, u = wr := ⟨_, rfl⟩
         obtain ⟨j, hj, rfl, HV4⟩ := hrel
         have j0 : (0 : Int) ≤ (j : Int) := by omega
         have HBV : Hid (Below wi.heap.size wi wv) := Lib.hid (HB4.out.trans (HV4.out.mono HB4.out.size))
         rcases Nat.lt_or_ge j 10 with h' | h'
         · have j1 : (j : Int) < 10 := by omega
           have hjl : j < (names y).length := by rw [HNL.out]; exact h'
           obtain ⟨p, m, c, e1, h1⟩ := HN.out.on HV4.out j hjl
           have HS := Lib.hid h1.strs
           obtain ⟨l, hl⟩ : ∃ l, (names y)[j] = l := ⟨_, rfl⟩
           have HL := Lib.hid (show (names y)[j]? = some l by rw [← hl]; exact List.getElem?_eq_getElem hjl)
           rw [hl] at HS
           have HLm := Lib.hid HS.out.1
           have t6 : (m : Int) ≤ 9223372036854775807 := by have := HS.out.2.1; omega
           have ew := (FW.out wv (HW.out.trans (HBV.out.mono HW.out.size))).get (r := j) (v := .string (words[j]'(show j < words.length from h'))) (word_cell (show j < words.length from h'))
           obtain ⟨wd, hwd⟩ : ∃ v, words[j]'(show j < words.length from h') = v := ⟨_, rfl⟩
           have HWD := Lib.hid (show words[j]? = some wd by rw [← hwd]; exact List.getElem?_eq_getElem _)
           rw [hwd] at ew
           have FE : Hid (∀ W, Below wv.heap.size wv W → W.cell? ⟨B, j, none⟩ = some (.slice p m c) ∧ W.cell? ⟨w2.heap.size, j, none⟩ = some (.string wd)) := Lib.hid fun W hW => ⟨(hW.cell (p := ⟨B, j, none⟩) (block_lt e1)).trans e1, (hW.cell (p := ⟨w2.heap.size, j, none⟩) (block_lt ew)).trans ew⟩
           clear h1 hl hjl hwd ew e1
           go_wp2_with fail
           go_loopw [7] (fun i wu => ∃ q : Nat, q ≤ m ∧ i = .int .i64 (q : Nat) ∧ Hid (Below wv.heap.size wv wu)) (fun i _ => m - (intOf i).toNat)
           case atStart => exact ⟨0, Nat.zero_le _, rfl, Lib.hid (Below.refl _ _)⟩
           case round =>
            obtain ⟨wu, rfl⟩ : ∃ u, u = wr := ⟨_, rfl⟩
            obtain ⟨q, hq, rfl, HU⟩ := hrel
            have q0 : (0 : Int) ≤ (q : Int) := by omega
            have HBU : Hid (Below wi.heap.size wi wu) := Lib.hid (HBV.out.trans (HU.out.mono HBV.out.size))
            obtain ⟨e1, e2⟩ := FE.out wu HU.out
            rcases Nat.lt_or_ge q m with hh | hh
            · have q1 : (q : Int) < (m : Int) := by omega
              have hql : q < l.length := by rw [HLm.out]; exact hh
              obtain ⟨b2, o2, rfl, hb2, hcell2⟩ : ∃ b o, p = some ⟨b, o, none⟩ ∧ b < wu.heap.size ∧ Hid (∀ i, (h : i < l.length) → wu.cell? ⟨b, o + i, none⟩ = some (.string (l[i]))) := by
               obtain ⟨-, -, h0 | h0⟩ := HS.out.on HU.out
               · omega
               · exact h0
              have a1 := hcell2.out q hql
              obtain ⟨nm, hnm⟩ : ∃ s, l[q] = s := ⟨_, rfl⟩
              rw [hnm] at a1
              have HNM := Lib.hid (show l[q]? = some nm by rw [← hnm]; exact List.getElem?_eq_getElem hql)
              obtain ⟨hkd, hix⟩ := name_at HTy.out HWD.out HL.out HNM.out
              obtain ⟨r1, hr1⟩ : ∃ v, rouI y.ro nm = v := ⟨_, rfl⟩
              have HR1 := Lib.hid hr1
              have hyo : ∀ W, Below wu.heap.size wu W → Below wi.heap.size wi W := fun W hW => HBU.out.trans (hW.mono HBU.out.size)
              have D1 := Lib.hid (fun W (hW : Below wu.heap.size wu W) => (show Calls Tryz.prog 18 #[.agg (cSte y Q), .string nm] W (Gives (.string wd) W) by rw [← hkd]; exact kind_any y Q nm W (HQ.out.on (hyo W hW))))
              have D2 := Lib.hid (fun W (hW : Below wu.heap.size wu W) => (show Calls Tryz.prog 20 #[.agg (cSte y Q), .string nm] W (Gives (.int .i64 (q : Nat)) W) by rw [← hix]; exact index_any y Q nm W (HQ.out.on (hyo W hW))))
              have D3 := Lib.hid (fun W (hW : Below wu.heap.size wu W) => (show Calls Tryz.prog 16 #[.agg (cSte y Q), .string nm] W (Gives (.int .i64 r1) W) by rw [← hr1]; exact routine_any y Q nm W (HQ.out.on (hyo W hW)).ro))
              have FT : Hid (∀ W, Below wu.heap.size wu W → W.cell? ⟨w.heap.size, 2, none⟩ = some (.slice (some ⟨b, o, none⟩) ms P.sic) ∧ W.cell? ⟨w2.heap.size, j, none⟩ = some (.string wd) ∧ (loadCellsFrom ⟨b, o + k * kk, none⟩ 0 kk #[]).run Tryz.prog W = .ok (cSte y Q) W) := Lib.hid fun W hW => ⟨(FR.out W (hyo W hW)).2.1, (FE.out W (HU.out.trans (hW.mono HU.out.size))).2, (FR.out W (hyo W hW)).2.2.2⟩
              have s1 : (wd.toList != wd.toList) = false := by rw [bne, beq_self_eq_true]; rfl
              have s2 : ((q : Int) != (q : Int)) = false := by rw [bne, beq_self_eq_true]; rfl
              clear hkd hix hr1 hcell2 hb2 hql hnm e2 hyo
              by_cases h9 : j = 9
              · have t9 : ((j : Int) == 9) = true := by rw [h9]; rfl
                have hr9 : r1 = (q : Int) := by rw [← HR1.out]; refine rou_name HTy.out ?_; have h2 := HL.out; rw [h9] at h2; have h3 : y.ro.map (·.nm) = l := Option.some.inj h2; rw [h3]; exact HNM.out
                subst hr9
                clear h9
                go_wp2_with fail
                clear e1 a1
                go_region_held3 (fun W => W.cell? ⟨w.heap.size, 2, none⟩ = some (.slice (some ⟨b, o, none⟩) ms P.sic) ∧ W.cell? ⟨w2.heap.size, j, none⟩ = some (.string wd) ∧ (loadCellsFrom ⟨b, o + k * kk, none⟩ 0 kk #[]).run Tryz.prog W = .ok (cSte y Q) W) (first | (refine FT.out _ ?_; exact bl; done) | (go_keep; done)) (first
                 | (have t := hb6; go_at_call 16; refine (D3.out _ bl).mono ?_; rintro e w7 ⟨rfl, hb7⟩)
                 | (have t := hb5; go_at_call 20; refine (D2.out _ bl).mono ?_; rintro e w6 ⟨rfl, hb6⟩)
                 | (go_at_call 18; refine (D1.out _ bl).mono ?_; rintro e w5 ⟨rfl, hb5⟩))
                all_goals
                 have HB7 : Hid (Below wu.heap.size wu w7) := Lib.hid bl
                 clear hb5 hb6 hb7
                 go_wp2_with fail
                 go_roundw
                 case rel => first | exact ⟨q + 1, by omega, by go_num, Lib.hid zQLw3c_2⟩ | ((repeat apply Exists.intro); refine And.intro ?_ rfl; exact ⟨q + 1, by omega, by go_num, Lib.hid zQLw3c_2⟩)
                 case measure => simp [intOf]; omega
              · have t9 : ((j : Int) == 9) = false := beq_eq_false_iff_ne.2 (by omega)
                clear h9
                go_wp2_with fail
                clear e1 a1
                refine wp_region_held_drew (S := (fun (W : World) => W.cell? ⟨w.heap.size, 2, none⟩ = some (.slice (some ⟨b, o, none⟩) ms P.sic) ∧ W.cell? ⟨w2.heap.size, j, none⟩ = some (.string wd) ∧ (loadCellsFrom ⟨b, o + k * kk, none⟩ 0 kk #[]).run Tryz.prog W = .ok (cSte y Q) W)) zQLw3c_0 (show ((fun (W : World) => W.cell? ⟨w.heap.size, 2, none⟩ = some (.slice (some ⟨b, o, none⟩) ms P.sic) ∧ W.cell? ⟨w2.heap.size, j, none⟩ = some (.string wd) ∧ (loadCellsFrom ⟨b, o + k * kk, none⟩ 0 kk #[]).run Tryz.prog W = .ok (cSte y Q) W)) _ from (FT.out _ bl)) (fun hHeld => ?_)
                refine wpAnyH_take (i := 0) (oi := { dst := some 67, op := Op.fieldAddr 26 (Operand.tmp 1) 2, type := 0, pos := "law.go:84", after := #[], guard := none }) (v := ?_) rfl zQLw3c_0 zQLw3c_0 zQLw3c_0 (fun _ _ _ h => h) (Or.inl ⟨by rfl, ?_⟩) zQLw3c_1 ?_
                rotate_left 1
                · intro w' hS'
                  try dsimp only at hS'
                  first | (go_simp; done) | (go_simp; with_reducible rfl)
                try simp only [Act.put, sA, sB, sC]
                refine wpAnyH_take (i := 1) (oi := { dst := some 68, op := Op.load 23 (Operand.tmp 67), type := 23, pos := "law.go:84", after := #[{ on := 0, ground := Ground.data }], guard := none }) (v := ?_) rfl zQLw3c_0 zQLw3c_0 zQLw3c_0 (fun _ _ _ h => h) (Or.inl ⟨by rfl, ?_⟩) zQLw3c_1 ?_
                rotate_left 1
                · intro w' hS'
                  try dsimp only at hS'
                  first | (go_simp; done) | (go_simp; with_reducible rfl)
                try simp only [Act.put, sA, sB, sC]
                refine wpAnyH_take (i := 2) (oi := { dst := some 69, op := Op.move (Operand.tmp 4), type := 3, pos := "law.go:84", after := #[], guard := none }) (v := ?_) rfl zQLw3c_0 zQLw3c_0 zQLw3c_0 (fun _ _ _ h => h) (Or.inl ⟨by rfl, ?_⟩) zQLw3c_1 ?_
                rotate_left 1
                · intro w' hS'
                  try dsimp only at hS'
                  first | (go_simp; done) | (go_simp; with_reducible rfl)
                try simp only [Act.put, sA, sB, sC]
                refine wpAnyH_take (i := 3) (oi := { dst := some 70, op := Op.indexAddr 23 (Operand.tmp 68) (Operand.tmp 69), type := 0, pos := "law.go:84", after := #[{ on := 1, ground := Ground.data }, { on := 2, ground := Ground.data }], guard := none }) (v := ?_) rfl zQLw3c_0 zQLw3c_0 zQLw3c_0 (fun _ _ _ h => h) (Or.inl ⟨by rfl, ?_⟩) zQLw3c_1 ?_
                rotate_left 1
                · intro w' hS'
                  try dsimp only at hS'
                  first | (go_simp; done) | (go_simp; with_reducible rfl)
                try simp only [Act.put, sA, sB, sC]
                refine wpAnyH_take (i := 4) (oi := { dst := some 71, op := Op.load 42 (Operand.tmp 70), type := 42, pos := "law.go:84", after := #[{ on := 3, ground := Ground.data }], guard := none }) (v := ?_) rfl zQLw3c_0 zQLw3c_0 zQLw3c_0 (fun _ _ _ h => h) (Or.inl ⟨by rfl, ?_⟩) zQLw3c_1 ?_
                rotate_left 1
                · intro w' hS'
                  try dsimp only at hS'
                  first | (go_simp; done) | (go_simp; with_reducible rfl)
                try simp only [Act.put, sA, sB, sC]
                refine wpAnyH_take (i := 5) (oi := { dst := some 72, op := Op.move (Operand.tmp 8), type := 9, pos := "law.go:84", after := #[], guard := none }) (v := ?_) rfl zQLw3c_0 zQLw3c_0 zQLw3c_0 (fun _ _ _ h => h) (Or.inl ⟨by rfl, ?_⟩) zQLw3c_1 ?_
                rotate_left 1
                · intro w' hS'
                  try dsimp only at hS'
                  first | (go_simp; done) | (go_simp; with_reducible rfl)
                try simp only [Act.put, sA, sB, sC]
                refine wpAnyH_take (i := 7) (oi := { dst := some 74, op := Op.move (Operand.tmp 3), type := 37, pos := "law.go:84", after := #[], guard := none }) (v := ?_) rfl zQLw3c_0 zQLw3c_0 zQLw3c_0 (fun _ _ _ h => h) (Or.inl ⟨by rfl, ?_⟩) zQLw3c_1 ?_
                rotate_left 1
                · intro w' hS'
                  try dsimp only at hS'
                  first | (go_simp; done) | (go_simp; with_reducible rfl)
                try simp only [Act.put, sA, sB, sC]
                refine wpAnyH_take (i := 8) (oi := { dst := some 75, op := Op.move (Operand.tmp 6), type := 3, pos := "law.go:84", after := #[], guard := none }) (v := ?_) rfl zQLw3c_0 zQLw3c_0 zQLw3c_0 (fun _ _ _ h => h) (Or.inl ⟨by rfl, ?_⟩) zQLw3c_1 ?_
                rotate_left 1
                · intro w' hS'
                  try dsimp only at hS'
                  first | (go_simp; done) | (go_simp; with_reducible rfl)
                try simp only [Act.put, sA, sB, sC]
                refine wpAnyH_take (i := 9) (oi := { dst := some 76, op := Op.indexAddr 37 (Operand.tmp 74) (Operand.tmp 75), type := 0, pos := "law.go:84", after := #[{ on := 7, ground := Ground.data }, { on := 8, ground := Ground.data }], guard := none }) (v := ?_) rfl zQLw3c_0 zQLw3c_0 zQLw3c_0 (fun _ _ _ h => h) (Or.inl ⟨by rfl, ?_⟩) zQLw3c_1 ?_
                rotate_left 1
                · intro w' hS'
                  try dsimp only at hS'
                  first | (go_simp; done) | (go_simp; with_reducible rfl)
                try simp only [Act.put, sA, sB, sC]
                refine wpAnyH_take (i := 10) (oi := { dst := some 77, op := Op.load 9 (Operand.tmp 76), type := 9, pos := "law.go:84", after := #[{ on := 9, ground := Ground.data }], guard := none }) (v := ?_) rfl zQLw3c_0 zQLw3c_0 zQLw3c_0 (fun _ _ _ h => h) (Or.inl ⟨by rfl, ?_⟩) zQLw3c_1 ?_
                rotate_left 1
                · intro w' hS'
                  try dsimp only at hS'
                  first | (go_simp; done) | (go_simp; with_reducible rfl)
                try simp only [Act.put, sA, sB, sC]
                refine wpAnyH_ready (rs := [6]) zQLw3c_0 (by simp) ?_
                refine AllReadyH.cons (o := { dst := some 73, op := Op.call { callee := Callee.value (Operand.func 18), args := #[Operand.tmp 71, Operand.tmp 72], argTypes := #[42, 9] }, type := 9, pos := "law.go:84", after := #[{ on := 4, ground := Ground.data }, { on := 5, ground := Ground.data }], guard := none }) rfl (fun K hK => ?_) ?_
                rotate_left 1
                · exact AllReadyH.nil
                go_simp
                refine (D1.out _ bl).mono ?_
                rintro e w5 ⟨rfl, hb5⟩
                clear hHeld
                refine hK.out _ _ (show ((fun (W : World) => W.cell? ⟨w.heap.size, 2, none⟩ = some (.slice (some ⟨b, o, none⟩) ms P.sic) ∧ W.cell? ⟨w2.heap.size, j, none⟩ = some (.string wd) ∧ (loadCellsFrom ⟨b, o + k * kk, none⟩ 0 kk #[]).run Tryz.prog W = .ok (cSte y Q) W)) _ from (FT.out _ bl)) (fun hHeld => ?_)
                clear hK K
                (try simp only [Act.put, sA, sB, sC])
                refine wpAnyH_take (i := 11) (oi := { dst := some 78, op := Op.binOp BinOp.neq 9 (Operand.tmp 73) (Operand.tmp 77) 9, type := 4, pos := "law.go:84", after := #[{ on := 6, ground := Ground.data }, { on := 10, ground := Ground.data }], guard := none }) (v := ?_) rfl zQLw3c_0 zQLw3c_0 zQLw3c_0 (fun _ _ _ h => h) (Or.inl ⟨by rfl, ?_⟩) zQLw3c_1 ?_
                rotate_left 1
                · intro w' hS'
                  try dsimp only at hS'
                  first | (go_simp; done) | (go_simp; with_reducible rfl)
                try simp only [Act.put, sA, sB, sC]
                refine wpAnyH_take (i := 12) (oi := { dst := some 79, op := Op.move (Operand.tmp 78), type := 4, pos := "law.go:84", after := #[{ on := 11, ground := Ground.data }, { on := 6, ground := Ground.chain }], guard := none }) (v := ?_) rfl zQLw3c_0 zQLw3c_0 zQLw3c_0 (fun _ _ _ h => h) (Or.inl ⟨by rfl, ?_⟩) zQLw3c_1 ?_
                rotate_left 1
                · intro w' hS'
                  try dsimp only at hS'
                  first | (go_simp; done) | (go_simp; with_reducible rfl)
                try simp only [Act.put, sA, sB, sC]
                refine wpAnyH_take (i := 13) (oi := { dst := some 80, op := Op.fieldAddr 26 (Operand.tmp 1) 2, type := 0, pos := "law.go:84", after := #[{ on := 12, ground := Ground.guard }], guard := some (12, false) }) (v := ?_) rfl zQLw3c_0 zQLw3c_0 zQLw3c_0 (fun _ _ _ h => h) (Or.inl ⟨by rfl, ?_⟩) zQLw3c_1 ?_
                rotate_left 1
                · intro w' hS'
                  try dsimp only at hS'
                  first | (go_simp; done) | (go_simp; with_reducible rfl)
                try simp only [Act.put, sA, sB, sC]
                refine wpAnyH_take (i := 14) (oi := { dst := some 81, op := Op.load 23 (Operand.tmp 80), type := 23, pos := "law.go:84", after := #[{ on := 13, ground := Ground.data }, { on := 12, ground := Ground.guard }], guard := some (12, false) }) (v := ?_) rfl zQLw3c_0 zQLw3c_0 zQLw3c_0 (fun _ _ _ h => h) (Or.inl ⟨by rfl, ?_⟩) zQLw3c_1 ?_
                rotate_left 1
                · intro w' hS'
                  try dsimp only at hS'
                  first | (go_simp; done) | (go_simp; with_reducible rfl)
                try simp only [Act.put, sA, sB, sC]
                refine wpAnyH_take (i := 15) (oi := { dst := some 82, op := Op.move (Operand.tmp 4), type := 3, pos := "law.go:84", after := #[{ on := 12, ground := Ground.guard }], guard := some (12, false) }) (v := ?_) rfl zQLw3c_0 zQLw3c_0 zQLw3c_0 (fun _ _ _ h => h) (Or.inl ⟨by rfl, ?_⟩) zQLw3c_1 ?_
                rotate_left 1
                · intro w' hS'
                  try dsimp only at hS'
                  first | (go_simp; done) | (go_simp; with_reducible rfl)
                try simp only [Act.put, sA, sB, sC]
                refine wpAnyH_take (i := 16) (oi := { dst := some 83, op := Op.indexAddr 23 (Operand.tmp 81) (Operand.tmp 82), type := 0, pos := "law.go:84", after := #[{ on := 14, ground := Ground.data }, { on := 15, ground := Ground.data }, { on := 12, ground := Ground.guard }], guard := some (12, false) }) (v := ?_) rfl zQLw3c_0 zQLw3c_0 zQLw3c_0 (fun _ _ _ h => h) (Or.inl ⟨by rfl, ?_⟩) zQLw3c_1 ?_
                rotate_left 1
                · intro w' hS'
                  try dsimp only at hS'
                  first | (go_simp; done) | (go_simp; with_reducible rfl)
                try simp only [Act.put, sA, sB, sC]
                refine wpAnyH_take (i := 17) (oi := { dst := some 84, op := Op.load 42 (Operand.tmp 83), type := 42, pos := "law.go:84", after := #[{ on := 16, ground := Ground.data }, { on := 12, ground := Ground.guard }], guard := some (12, false) }) (v := ?_) rfl zQLw3c_0 zQLw3c_0 zQLw3c_0 (fun _ _ _ h => h) (Or.inl ⟨by rfl, ?_⟩) zQLw3c_1 ?_
                rotate_left 1
                · intro w' hS'
                  try dsimp only at hS'
                  first | (go_simp; done) | (go_simp; with_reducible rfl)
                try simp only [Act.put, sA, sB, sC]
                refine wpAnyH_take (i := 18) (oi := { dst := some 85, op := Op.move (Operand.tmp 8), type := 9, pos := "law.go:84", after := #[{ on := 12, ground := Ground.guard }], guard := some (12, false) }) (v := ?_) rfl zQLw3c_0 zQLw3c_0 zQLw3c_0 (fun _ _ _ h => h) (Or.inl ⟨by rfl, ?_⟩) zQLw3c_1 ?_
                rotate_left 1
                · intro w' hS'
                  try dsimp only at hS'
                  first | (go_simp; done) | (go_simp; with_reducible rfl)
                try simp only [Act.put, sA, sB, sC]
                refine wpAnyH_take (i := 20) (oi := { dst := some 87, op := Op.move (Operand.tmp 7), type := 3, pos := "law.go:84", after := #[{ on := 12, ground := Ground.guard }], guard := some (12, false) }) (v := ?_) rfl zQLw3c_0 zQLw3c_0 zQLw3c_0 (fun _ _ _ h => h) (Or.inl ⟨by rfl, ?_⟩) zQLw3c_1 ?_
                rotate_left 1
                · intro w' hS'
                  try dsimp only at hS'
                  first | (go_simp; done) | (go_simp; with_reducible rfl)
                try simp only [Act.put, sA, sB, sC]
                refine wpAnyH_ready (rs := [19]) zQLw3c_0 (by simp) ?_
                refine AllReadyH.cons (o := { dst := some 86, op := Op.call { callee := Callee.value (Operand.func 20), args := #[Operand.tmp 84, Operand.tmp 85], argTypes := #[42, 9] }, type := 3, pos := "law.go:84", after := #[{ on := 17, ground := Ground.data }, { on := 18, ground := Ground.data }, { on := 12, ground := Ground.chain }, { on := 12, ground := Ground.guard }], guard := some (12, false) }) rfl (fun K hK => ?_) ?_
                rotate_left 1
                · exact AllReadyH.nil
                go_simp
                refine (D2.out _ bl).mono ?_
                rintro e w6 ⟨rfl, hb6⟩
                clear hHeld
                refine hK.out _ _ (show ((fun (W : World) => W.cell? ⟨w.heap.size, 2, none⟩ = some (.slice (some ⟨b, o, none⟩) ms P.sic) ∧ W.cell? ⟨w2.heap.size, j, none⟩ = some (.string wd) ∧ (loadCellsFrom ⟨b, o + k * kk, none⟩ 0 kk #[]).run Tryz.prog W = .ok (cSte y Q) W)) _ from (FT.out _ bl)) (fun hHeld => ?_)
                clear hK K
                (try simp only [Act.put, sA, sB, sC])
                refine wpAnyH_take (i := 21) (oi := { dst := some 88, op := Op.binOp BinOp.neq 3 (Operand.tmp 86) (Operand.tmp 87) 3, type := 4, pos := "law.go:84", after := #[{ on := 19, ground := Ground.data }, { on := 20, ground := Ground.data }, { on := 12, ground := Ground.guard }], guard := some (12, false) }) (v := ?_) rfl zQLw3c_0 zQLw3c_0 zQLw3c_0 (fun _ _ _ h => h) (Or.inl ⟨by rfl, ?_⟩) zQLw3c_1 ?_
                rotate_left 1
                · intro w' hS'
                  try dsimp only at hS'
                  first | (go_simp; done) | (go_simp; with_reducible rfl)
                try simp only [Act.put, sA, sB, sC]
                refine wpAnyH_take (i := 22) (oi := { dst := some 89, op := Op.pick (Operand.tmp 79) (Operand.const (Value.bool true)) (Operand.tmp 88), type := 4, pos := "law.go:84", after := #[{ on := 12, ground := Ground.data }, { on := 21, ground := Ground.data }], guard := none }) (v := ?_) rfl zQLw3c_0 zQLw3c_0 zQLw3c_0 (fun _ _ _ h => h) (Or.inl ⟨by rfl, ?_⟩) zQLw3c_1 ?_
                rotate_left 1
                · intro w' hS'
                  try dsimp only at hS'
                  first | (go_simp; done) | (go_simp; with_reducible rfl)
                try simp only [Act.put, sA, sB, sC]
                refine wpAnyH_take (i := 23) (oi := { dst := some 90, op := Op.move (Operand.tmp 89), type := 4, pos := "law.go:84", after := #[{ on := 22, ground := Ground.data }, { on := 19, ground := Ground.chain }], guard := none }) (v := ?_) rfl zQLw3c_0 zQLw3c_0 zQLw3c_0 (fun _ _ _ h => h) (Or.inl ⟨by rfl, ?_⟩) zQLw3c_1 ?_
                rotate_left 1
                · intro w' hS'
                  try dsimp only at hS'
                  first | (go_simp; done) | (go_simp; with_reducible rfl)
                try simp only [Act.put, sA, sB, sC]
                refine wpAnyH_take (i := 24) (oi := { dst := some 91, op := Op.move (Operand.tmp 6), type := 3, pos := "law.go:84", after := #[{ on := 23, ground := Ground.guard }], guard := some (23, false) }) (v := ?_) rfl zQLw3c_0 zQLw3c_0 zQLw3c_0 (fun _ _ _ h => h) (Or.inl ⟨by rfl, ?_⟩) zQLw3c_1 ?_
                rotate_left 1
                · intro w' hS'
                  try dsimp only at hS'
                  first | (go_simp; done) | (go_simp; with_reducible rfl)
                try simp only [Act.put, sA, sB, sC]
                refine wpAnyH_take (i := 25) (oi := { dst := some 92, op := Op.binOp BinOp.eql 3 (Operand.tmp 91) (Operand.const (Value.int IntKind.i64 9)) 3, type := 4, pos := "law.go:84", after := #[{ on := 24, ground := Ground.data }, { on := 23, ground := Ground.guard }], guard := some (23, false) }) (v := ?_) rfl zQLw3c_0 zQLw3c_0 zQLw3c_0 (fun _ _ _ h => h) (Or.inl ⟨by rfl, ?_⟩) zQLw3c_1 ?_
                rotate_left 1
                · intro w' hS'
                  try dsimp only at hS'
                  first | (go_simp; done) | (go_simp; with_reducible rfl)
                try simp only [Act.put, sA, sB, sC]
                refine wpAnyH_take (i := 26) (oi := { dst := some 93, op := Op.move (Operand.tmp 92), type := 4, pos := "law.go:84", after := #[{ on := 25, ground := Ground.data }, { on := 23, ground := Ground.chain }, { on := 23, ground := Ground.guard }], guard := some (23, false) }) (v := ?_) rfl zQLw3c_0 zQLw3c_0 zQLw3c_0 (fun _ _ _ h => h) (Or.inl ⟨by rfl, ?_⟩) zQLw3c_1 ?_
                rotate_left 1
                · intro w' hS'
                  try dsimp only at hS'
                  first | (go_simp; done) | (go_simp; with_reducible rfl)
                try simp only [Act.put, sA, sB, sC]
                refine wpAnyH_take (i := 27) (oi := { dst := some 94, op := Op.fieldAddr 26 (Operand.tmp 1) 2, type := 0, pos := "law.go:84", after := #[{ on := 26, ground := Ground.guard }], guard := some (26, true) }) (v := undef) rfl zQLw3c_0 zQLw3c_0 zQLw3c_0 (fun _ _ _ h => h) (Or.inr ⟨by kernel_rfl, rfl⟩) zQLw3c_1 ?_
                try simp only [Act.put, sA, sB, sC]
                refine wpAnyH_take (i := 28) (oi := { dst := some 95, op := Op.load 23 (Operand.tmp 94), type := 23, pos := "law.go:84", after := #[{ on := 27, ground := Ground.data }, { on := 26, ground := Ground.guard }], guard := some (26, true) }) (v := undef) rfl zQLw3c_0 zQLw3c_0 zQLw3c_0 (fun _ _ _ h => h) (Or.inr ⟨by kernel_rfl, rfl⟩) zQLw3c_1 ?_
                try simp only [Act.put, sA, sB, sC]
                refine wpAnyH_take (i := 29) (oi := { dst := some 96, op := Op.move (Operand.tmp 4), type := 3, pos := "law.go:84", after := #[{ on := 26, ground := Ground.guard }], guard := some (26, true) }) (v := undef) rfl zQLw3c_0 zQLw3c_0 zQLw3c_0 (fun _ _ _ h => h) (Or.inr ⟨by kernel_rfl, rfl⟩) zQLw3c_1 ?_
                try simp only [Act.put, sA, sB, sC]
                refine wpAnyH_take (i := 30) (oi := { dst := some 97, op := Op.indexAddr 23 (Operand.tmp 95) (Operand.tmp 96), type := 0, pos := "law.go:84", after := #[{ on := 28, ground := Ground.data }, { on := 29, ground := Ground.data }, { on := 26, ground := Ground.guard }], guard := some (26, true) }) (v := undef) rfl zQLw3c_0 zQLw3c_0 zQLw3c_0 (fun _ _ _ h => h) (Or.inr ⟨by kernel_rfl, rfl⟩) zQLw3c_1 ?_
                try simp only [Act.put, sA, sB, sC]
                refine wpAnyH_take (i := 31) (oi := { dst := some 98, op := Op.load 42 (Operand.tmp 97), type := 42, pos := "law.go:84", after := #[{ on := 30, ground := Ground.data }, { on := 26, ground := Ground.guard }], guard := some (26, true) }) (v := undef) rfl zQLw3c_0 zQLw3c_0 zQLw3c_0 (fun _ _ _ h => h) (Or.inr ⟨by kernel_rfl, rfl⟩) zQLw3c_1 ?_
                try simp only [Act.put, sA, sB, sC]
                refine wpAnyH_take (i := 32) (oi := { dst := some 99, op := Op.move (Operand.tmp 8), type := 9, pos := "law.go:84", after := #[{ on := 26, ground := Ground.guard }], guard := some (26, true) }) (v := undef) rfl zQLw3c_0 zQLw3c_0 zQLw3c_0 (fun _ _ _ h => h) (Or.inr ⟨by kernel_rfl, rfl⟩) zQLw3c_1 ?_
                try simp only [Act.put, sA, sB, sC]
                refine wpAnyH_take (i := 33) (oi := { dst := some 100, op := Op.call { callee := Callee.value (Operand.func 16), args := #[Operand.tmp 98, Operand.tmp 99], argTypes := #[42, 9] }, type := 3, pos := "law.go:84", after := #[{ on := 31, ground := Ground.data }, { on := 32, ground := Ground.data }, { on := 26, ground := Ground.chain }, { on := 26, ground := Ground.guard }], guard := some (26, true) }) (v := undef) rfl zQLw3c_0 zQLw3c_0 zQLw3c_0 (fun _ _ _ h => h) (Or.inr ⟨by kernel_rfl, rfl⟩) zQLw3c_1 ?_
                try simp only [Act.put, sA, sB, sC]
                refine wpAnyH_take (i := 34) (oi := { dst := some 101, op := Op.move (Operand.tmp 7), type := 3, pos := "law.go:84", after := #[{ on := 26, ground := Ground.guard }], guard := some (26, true) }) (v := undef) rfl zQLw3c_0 zQLw3c_0 zQLw3c_0 (fun _ _ _ h => h) (Or.inr ⟨by kernel_rfl, rfl⟩) zQLw3c_1 ?_
                try simp only [Act.put, sA, sB, sC]
                refine wpAnyH_take (i := 35) (oi := { dst := some 102, op := Op.binOp BinOp.neq 3 (Operand.tmp 100) (Operand.tmp 101) 3, type := 4, pos := "law.go:84", after := #[{ on := 33, ground := Ground.data }, { on := 34, ground := Ground.data }, { on := 26, ground := Ground.guard }], guard := some (26, true) }) (v := undef) rfl zQLw3c_0 zQLw3c_0 zQLw3c_0 (fun _ _ _ h => h) (Or.inr ⟨by kernel_rfl, rfl⟩) zQLw3c_1 ?_
                try simp only [Act.put, sA, sB, sC]
                refine wpAnyH_take (i := 36) (oi := { dst := some 103, op := Op.pick (Operand.tmp 93) (Operand.tmp 102) (Operand.const (Value.bool false)), type := 4, pos := "law.go:84", after := #[{ on := 26, ground := Ground.data }, { on := 35, ground := Ground.data }, { on := 23, ground := Ground.guard }], guard := some (23, false) }) (v := ?_) rfl zQLw3c_0 zQLw3c_0 zQLw3c_0 (fun _ _ _ h => h) (Or.inl ⟨by rfl, ?_⟩) zQLw3c_1 ?_
                rotate_left 1
                · intro w' hS'
                  try dsimp only at hS'
                  first | (go_simp; done) | (go_simp; with_reducible rfl)
                try simp only [Act.put, sA, sB, sC]
                refine wpAnyH_take (i := 37) (oi := { dst := some 104, op := Op.pick (Operand.tmp 90) (Operand.const (Value.bool true)) (Operand.tmp 103), type := 4, pos := "law.go:84", after := #[{ on := 23, ground := Ground.data }, { on := 36, ground := Ground.data }], guard := none }) (v := ?_) rfl zQLw3c_0 zQLw3c_0 zQLw3c_0 (fun _ _ _ h => h) (Or.inl ⟨by rfl, ?_⟩) zQLw3c_1 ?_
                rotate_left 1
                · intro w' hS'
                  try dsimp only at hS'
                  first | (go_simp; done) | (go_simp; with_reducible rfl)
                try simp only [Act.put, sA, sB, sC]
                refine wpAnyH_done zQLw3c_0 ?_ _
                try (refine NoPanic.normal ?_)
                have HB7 : Hid (Below wu.heap.size wu w6) := Lib.hid bl
                clear hb5 hb6 hHeld
                go_wp2_with fail
                go_roundw
                case rel => first | exact ⟨q + 1, by omega, by go_num, Lib.hid zQLw3c_2⟩ | ((repeat apply Exists.intro); refine And.intro ?_ rfl; exact ⟨q + 1, by omega, by go_num, Lib.hid zQLw3c_2⟩)
                case measure => simp [intOf]; omega
            · obtain rfl : m = q := by omega
              go_wp2_with fail
              go_roundw
              case rel => first | exact ⟨j + 1, by omega, by go_num, Lib.hid (by have h := HV4.out; have h2 := HU.out; exact bl)⟩ | ((repeat apply Exists.intro); refine And.intro ?_ rfl; exact ⟨j + 1, by omega, by go_num, Lib.hid (by have h := HV4.out; have h2 := HU.out; exact bl)⟩)
              case measure => simp [intOf]; omega
         · obtain rfl : j = 10 := by omega
           go_wp2_with fail
           go_roundw
           case rel => first | exact ⟨k + 1, by omega, by go_num, Lib.hid (by have h := HW.out; have h2 := HBV.out; exact bl)⟩ | ((repeat apply Exists.intro); refine And.intro ?_ rfl; exact ⟨k + 1, by omega, by go_num, Lib.hid (by have h := HW.out; have h2 := HBV.out; exact bl)⟩)
           case measure => simp [intOf]; omega
     · obtain rfl : ms = k := by omega
       obtain ⟨kl, hkl⟩ : ∃ n : Nat, 3 = n := ⟨_, rfl⟩
       have hsz3 : ∀ w, (sizeOf 49).run Tryz.prog w = .ok kl w := fun w => by rw [Tryz.sizeOf49, hkl]
       have HKL := Lib.hid hkl
       clear hkl
       go_wp2_with fail
       clear g2 g3
       go_loopw [9] (fun i wv => ∃ j : Nat, j ≤ ml ∧ i = .int .i64 (j : Nat) ∧ Hid (Below wi.heap.size wi wv)) (fun i _ => ml - (intOf i).toNat)
       case atStart => exact ⟨0, Nat.zero_le _, rfl, Lib.hid (Below.refl _ _)⟩
       case round =>
        obtain ⟨wv, rfl⟩ : ∃ u, u = wr := ⟨_, rfl⟩
        obtain ⟨j, hj, rfl, HV4⟩ := hrel
        have j0 : (0 : Int) ≤ (j : Int) := by omega
        have HBR : Hid (Below (w.alloc (.cells (cMdl x P) 26)).heap.size (w.alloc (.cells (cMdl x P) 26)) wv) := Lib.hid (HBQ.out.trans (HV4.out.mono HBQ.out.size))
        have HBV : Hid (Below w.heap.size w wv) := Lib.hid (by have h := HBR.out; exact bl)
        obtain ⟨g2, g3⟩ := FK.out wv HBR.out
        clear g2
        rcases Nat.lt_or_ge j ml with h' | h'
        · have j1 : (j : Int) < (ml : Int) := by omega
          have hjl : j < x.li.length := by rw [HJL.out]; exact h'
          obtain ⟨b, o, hp, hbG, hG, hcell⟩ := (HJ.out.on RLnk.map HBV.out).rows (by omega)
          obtain ⟨d, hds, hat, hR⟩ := hcell.out j hjl
          obtain ⟨y, hy⟩ : ∃ y, x.li[j] = y := ⟨_, rfl⟩
          have HMy := Lib.hid (show y ∈ x.li by rw [← hy]; exact List.getElem_mem hjl)
          rw [hy] at hR
          obtain rfl : d = cLnk y := hR
          rw [hp] at g3
          have a0 := (hat.at HKL.out).get (r := 0) (v := .string y.fr) (cLnk0 y)
          have a1 := (hat.at HKL.out).get (r := 1) (v := .string y.tt) (cLnk1 y)
          have a2 := (hat.at HKL.out).get (r := 2) (v := .int .i64 y.de) (cLnk2 y)
          rw [Nat.add_zero] at a0
          obtain ⟨hv1, hv2⟩ := lnk_at HM.out.2.2.2 HMy.out
          have FR : Hid (∀ W, Below wv.heap.size wv W → (loadCellsFrom ⟨w.heap.size, 0, none⟩ 0 n4 #[]).run Tryz.prog W = .ok (cMdl x P) W ∧ W.cell? ⟨w.heap.size, 3, none⟩ = some (.slice (some ⟨b, o, none⟩) ml P.lic) ∧ W.cell? ⟨b, o + j * kl, none⟩ = some (.string y.fr) ∧ W.cell? ⟨b, o + j * kl + 1, none⟩ = some (.string y.tt) ∧ W.cell? ⟨b, o + j * kl + 2, none⟩ = some (.int .i64 y.de)) := Lib.hid fun W hW => ⟨FM.out W (HBR.out.trans (hW.mono HBR.out.size)), (hW.cell (p := ⟨w.heap.size, 3, none⟩) (block_lt g3)).trans g3, (hW.cell (p := ⟨b, o + j * kl, none⟩) (block_lt a0)).trans a0, (hW.cell (p := ⟨b, o + j * kl + 1, none⟩) (block_lt a1)).trans a1, (hW.cell (p := ⟨b, o + j * kl + 2, none⟩) (block_lt a2)).trans a2⟩
          have FL : Hid (∀ W, Below wv.heap.size wv W → (loadCellsFrom ⟨w.heap.size, 0, none⟩ 0 n4 #[]).run Tryz.prog W = .ok (cMdl x P) W ∧ W.cell? ⟨w.heap.size, 3, none⟩ = some (.slice (some ⟨b, o, none⟩) ml P.lic) ∧ W.cell? ⟨b, o + j * kl, none⟩ = some (.string y.fr) ∧ W.cell? ⟨b, o + j * kl + 1, none⟩ = some (.string y.tt)) := Lib.hid fun W hW => ⟨(FR.out W hW).1, (FR.out W hW).2.1, (FR.out W hW).2.2.1, (FR.out W hW).2.2.2.1⟩
          have CK := Lib.hid (fun W (hW : Below wv.heap.size wv W) => (show Calls Tryz.prog 12 #[.agg (cMdl x P), .string y.fr, .string y.tt] W (Gives (.tuple #[.int .i64 y.de, .bool true]) W) by have h := link_any x P y.fr y.tt W (HX.out.on (HBV.out.trans (hW.mono HBV.out.size))).li; rw [hv1] at h; exact h))
          have t5 : (y.de != y.de) = false := by rw [bne, beq_self_eq_true]; rfl
          have t6 : decide (y.de < 1) = false := decide_eq_false (by omega)
          clear hcell hds hat hy hjl hbG hG hp a0 a1 a2 hv1 hv2
          go_wp2_with fail
          clear g3
          go_region_held3 (fun W => (loadCellsFrom ⟨w.heap.size, 0, none⟩ 0 n4 #[]).run Tryz.prog W = .ok (cMdl x P) W ∧ W.cell? ⟨w.heap.size, 3, none⟩ = some (.slice (some ⟨b, o, none⟩) ml P.lic) ∧ W.cell? ⟨b, o + j * kl, none⟩ = some (.string y.fr) ∧ W.cell? ⟨b, o + j * kl + 1, none⟩ = some (.string y.tt)) (first | (refine FL.out _ ?_; exact bl; done) | (go_keep; done)) (first
           | (go_at_call 12; refine (CK.out _ bl).mono ?_; rintro e w5 ⟨rfl, hb5⟩))
          all_goals
           have HB5 : Hid (Below wv.heap.size wv w5) := Lib.hid bl
           obtain ⟨f0, f1, f2, f3, f4⟩ := FR.out w5 HB5.out
           clear f0 f2 f3 hb5
           go_wp2_with fail
           go_roundw
           case rel => first | exact ⟨j + 1, by omega, by go_num, Lib.hid (by have h := HV4.out; have h2 := HB5.out; exact bl)⟩ | ((repeat apply Exists.intro); refine And.intro ?_ rfl; exact ⟨j + 1, by omega, by go_num, Lib.hid (by have h := HV4.out; have h2 := HB5.out; exact bl)⟩)
           case measure => simp [intOf]; omega
        · obtain rfl : ml = j := by omega
          go_wp2_with fail
          refine (awake_any _).mono ?_
          rintro e wz ⟨rfl, hbz⟩
          go_wp2_with fail
          go_ret
          exact ⟨rfl, by have h := HBV.out; exact bl⟩
end Go.Proofs.YtaaffmbnhjaebaaGreat.Md
