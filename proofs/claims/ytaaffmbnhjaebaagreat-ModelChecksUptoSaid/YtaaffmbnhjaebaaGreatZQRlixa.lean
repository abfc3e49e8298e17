/-
  Parts of this proof: The contract of the reference's links.
-/
import Derived.Test.YtaaffmbnhjaebaaGreatZQRsdxa
import Derived.Test.YtaaffmbnhjaebaaGreatZQRlkxab
namespace Go.Proofs.YtaaffmbnhjaebaaGreat.Md
open Go.RowKit Go.Maps
open Go.Proofs.YtaaffmbnhjaebaaGreat.Na (bs_inj)
open Go.Proofs.YtaaffmbnhjaebaaGreat.Ex (Lo Gives block_lt take_one ret_int)
attribute [local go_sem] cLnk0 cLnk1 cLnk2
set_option maxHeartbeats 4000000
set_option linter.unusedVariables false
theorem lnkK_iff {a b : Lnk} : lnkK a = lnkK b ↔ a.fr = b.fr ∧ a.tt = b.tt := by
 unfold lnkK
 rw [Prod.mk.injEq]
 exact ⟨fun h => ⟨bs_inj h.1, bs_inj h.2⟩, fun h => ⟨by rw [h.1], by rw [h.2]⟩⟩
theorem stepK_bad {si : List Ste} {acc : List (List UInt8 × List UInt8)} {y : Lnk} {v : Int} (h : lnkT si y = v) (hv : ¬ v = 0) : stepK si acc y = (v, acc) := by unfold stepK; rw [if_neg (by rw [h]; exact hv), h]
theorem rsite_at {x : Mdl} {P : PMdl} {s : ByteArray} {v : Int} (h : siteI x.si s = v) (w : World) (hl : Rw 13 RSte (Lo w.heap.size) w x.si P.sip P.sim) : Calls Tryz.prog 15 #[.agg (cMdl x P), .string s] w (Gives (.int .i64 v) w) := by rw [← h]; exact rsite_any x P s w hl
theorem zQRlia_2 {p : Prop} (h : p := by have h := HBW.out; have h1 := HV1.out; exact bl) : p := h
theorem zQRlia_0 {p : Prop} (h : p := by
 go_wp2_with fail
 refine (C1.out _ (by have h := HBW.out; exact bl)).mono ?_
 rintro e v1 ⟨rfl, hb1⟩
 have HV1 : Hid (Below (wr.alloc (.cells (cLnk y) 49)).heap.size (wr.alloc (.cells (cLnk y) 49)) v1) := Lib.hid bl
 have ld1 := FM.out v1 HV1.out
 obtain ⟨y0, y1, y2⟩ := FY.out v1 HV1.out
 go_wp2_with fail
 refine (C2.out _ zQRlia_2).mono ?_
 rintro e v2 ⟨rfl, hb2⟩
 have HV2 : Hid (Below (wr.alloc (.cells (cLnk y) 49)).heap.size (wr.alloc (.cells (cLnk y) 49)) v2) := Lib.hid (by have h1 := HV1.out; exact bl)
 clear ld1 y0 y1 y2 hb1 hb2
 have ld2 := FM.out v2 HV2.out
 obtain ⟨y0, y1, y2⟩ := FY.out v2 HV2.out
 go_wp2_with fail
 go_ret
 exact ⟨ret_int HN.out.symm, by have h := HBW.out; have h1 := HV2.out; exact bl⟩
 ) : p := h
theorem zQRlia_1 {p : Prop} (h : p := by
 go_wp2_with fail
 go_quiet (fail)
 go_wp2_with fail
 go_roundw
 case rel => exact ⟨q + 1, by omega, by go_num, Lib.hid (by have h := HV.out; exact bl), HP2⟩
 case measure => simp [intOf]; omega
 ) : p := h
set_option maxRecDepth 100000 in
theorem rlinks_any (x : Mdl) (P : PMdl) (w : World) (hx : OMdl (Lo w.heap.size) w x P) : Calls Tryz.prog 38 #[.agg (cMdl x P)] w (Gives (.int .i64 (lnksE x)) w) := by
 have HSI := Lib.hid hx.si
 have HH := Lib.hid hx.li
 obtain ⟨hlm, hm⟩ := hx.li.len
 have HL := Lib.hid hlm
 obtain ⟨l, hlx⟩ : ∃ l, x.li = l := ⟨_, rfl⟩
 obtain ⟨m, hmx⟩ : ∃ m, P.lim = m := ⟨_, rfl⟩
 have FX := far (w := w) 26 (cMdl x P)
 obtain ⟨n4, hn4⟩ : ∃ n : Nat, 4 = n := ⟨_, rfl⟩
 have hsz4 : ∀ w, (sizeOf 26).run Tryz.prog w = .ok n4 w := fun w => by rw [Tryz.sizeOf26, hn4]
 obtain ⟨kk, hkk⟩ : ∃ n : Nat, 3 = n := ⟨_, rfl⟩
 have hsz : ∀ w, (sizeOf 49).run Tryz.prog w = .ok kk w := fun w => by rw [Tryz.sizeOf49, hkk]
 have HKK := Lib.hid hkk
 have FK : Hid (∀ W, Below (w.alloc (.cells (cMdl x P) 26)).heap.size (w.alloc (.cells (cMdl x P) 26)) W → W.cell? ⟨w.heap.size, 3, none⟩ = some (.slice P.lip m P.lic) ∧ (loadCellsFrom ⟨w.heap.size, 0, none⟩ 0 n4 #[]).run Tryz.prog W = .ok (cMdl x P) W) := Lib.hid fun W hb => ⟨by rw [← hmx]; exact (FX.out W hb).get (cMdl3 x P), (FX.out W hb).cell.ldN (by rw [cMdl_size]; exact hn4)⟩
 have HE0 := Lib.hid (show lnksE x = (eachE (stepK x.si) 32 l []).1 by rw [← hlx]; rfl)
 rw [hlx] at HH HL hlm
 rw [hmx] at HH HL hlm hm
 obtain ⟨g3, -⟩ := FK.out (w.alloc (.cells (cMdl x P) 26)) (Below.refl _ _)
 have CS := Lib.hid (fun W (hW : Below w.heap.size w W) (s : ByteArray) (v : Int) (hv : siteI x.si s = v) => rsite_at (P := P) hv W (HSI.out.on RSte.map hW))
 clear hx hlx hmx hn4 hkk
 by_cases h32 : 32 < m
 · have d1 : decide ((32 : Int) < (m : Int)) = true := decide_eq_true (by omega)
   have d2 : (32 : Int) < (m : Int) := by omega
   have HN := Lib.hid (show lnksE x = 6 by rw [HE0.out]; unfold eachE; rw [if_pos (by omega)])
   clear hlm hm h32
   go_enter Tryz.func38, Tryz.ntmps38
   go_wp2_with fail
   go_ret
   exact ⟨ret_int HN.out.symm, bl⟩
 have d1 : decide ((32 : Int) < (m : Int)) = false := decide_eq_false (by omega)
 have d2 : (m : Int) ≤ 32 := by omega
 have HE := Lib.hid (show lnksE x = (goE (stepK x.si) l []).1 by rw [HE0.out]; unfold eachE; rw [if_neg (by omega)])
 clear hlm hm h32 HE0
 go_enter Tryz.func38, Tryz.ntmps38
 go_wp2_with fail
 clear g3
 go_loopw [3] (fun i wr => ∃ k : Nat, k ≤ m ∧ i = .int .i64 (k : Nat) ∧ Hid (Below (w.alloc (.cells (cMdl x P) 26)).heap.size (w.alloc (.cells (cMdl x P) 26)) wr) ∧ Hid (goE (stepK x.si) (l.take k) [] = (0, (l.take k).map lnkK))) (fun i _ => m - (intOf i).toNat)
 case atStart => exact ⟨0, Nat.zero_le _, rfl, Lib.hid bl, Lib.hid rfl⟩
 case round =>
  obtain ⟨k, hk, rfl, HW, HA⟩ := hrel
  have k0 : (0 : Int) ≤ (k : Int) := by omega
  obtain ⟨g3, ld0⟩ := FK.out wr HW.out
  have HBW : Hid (Below w.heap.size w wr) := Lib.hid (by have h := HW.out; exact bl)
  rcases Nat.lt_or_ge k m with h | h
  · have k1 : (k : Int) < (m : Int) := by omega
    have hkl : k < l.length := by rw [HL.out]; exact h
    have hgx := List.getElem?_eq_getElem hkl
    obtain ⟨b, o, hp, hbG, hG, hcell⟩ := (HH.out.below RLnk.map HBW.out).rows (by omega)
    obtain ⟨d, hds, hat, hR⟩ := hcell.out k hkl
    have HCL := hcell
    have HG := Lib.hid hG
    obtain ⟨y, hy⟩ : ∃ y, l[k] = y := ⟨_, rfl⟩
    rw [hy] at hgx hR
    obtain rfl : d = cLnk y := hR
    rw [hp] at g3
    have HX := Lib.hid hgx
    have hat2 := hat.at HKK.out
    have bt : Big 49 (cLnk y).size := by rw [hds]; exact bLnk
    have hcsz : (cLnk y).size = kk := by rw [hds, HKK.out]
    have l1 := hat2.ldN hcsz
    have l2 := hat2.ldV bt
    have l3 := hat2.ldA bt
    have st1 := fun (z : Array Value) (hz : z.size = 3) => put_C bt (cLnk_one y) z (by rw [hz, hds])
    have st2 := fun (z : Array Value) (hz : z.size = 3) => put_V bt (cLnk_one y) z (by rw [hz, hds])
    have st3 := fun (z : Array Value) (hz : z.size = 3) => put_A bt (cLnk_one y) z (by rw [hz, hds])
    have FU := far (w := wr) 49 (cLnk y)
    have HBU : Hid (Below (w.alloc (.cells (cMdl x P) 26)).heap.size (w.alloc (.cells (cMdl x P) 26)) (wr.alloc (.cells (cLnk y) 49))) := Lib.hid (by have h := HW.out; exact bl)
    have FM : Hid (∀ W, Below (wr.alloc (.cells (cLnk y) 49)).heap.size (wr.alloc (.cells (cLnk y) 49)) W → (loadCellsFrom ⟨w.heap.size, 0, none⟩ 0 n4 #[]).run Tryz.prog W = .ok (cMdl x P) W) := Lib.hid fun W hW => (FK.out W (HBU.out.trans (hW.mono HBU.out.size))).2
    have FY : Hid (∀ W, Below (wr.alloc (.cells (cLnk y) 49)).heap.size (wr.alloc (.cells (cLnk y) 49)) W → W.cell? ⟨wr.heap.size, 0, none⟩ = some (.string y.fr) ∧ W.cell? ⟨wr.heap.size, 1, none⟩ = some (.string y.tt) ∧ W.cell? ⟨wr.heap.size, 2, none⟩ = some (.int .i64 y.de)) := Lib.hid fun W hW => ⟨(FU.out W hW).get (cLnk0 y), (FU.out W hW).get (cLnk1 y), (FU.out W hW).get (cLnk2 y)⟩
    have FI : Hid (∀ W, Below (wr.alloc (.cells (cLnk y) 49)).heap.size (wr.alloc (.cells (cLnk y) 49)) W → W.cell? ⟨w.heap.size, 3, none⟩ = some (.slice (some ⟨b, o, none⟩) m P.lic)) := Lib.hid fun W hW => (show Below wr.heap.size wr W from (show Below wr.heap.size wr (wr.alloc (.cells (cLnk y) 49)) by exact bl).trans (hW.mono (show Below wr.heap.size wr (wr.alloc (.cells (cLnk y) 49)) by exact bl).size)).cell (p := ⟨w.heap.size, 3, none⟩) (block_lt g3) |>.trans g3
    have FL : Hid (∀ W, Below (wr.alloc (.cells (cLnk y) 49)).heap.size (wr.alloc (.cells (cLnk y) 49)) W → ∀ q (z : Lnk), l[q]? = some z → W.cell? ⟨b, o + q * kk, none⟩ = some (.string z.fr) ∧ W.cell? ⟨b, o + q * kk + 1, none⟩ = some (.string z.tt)) := Lib.hid fun W hW q z hz => by
     obtain ⟨hql, hqe⟩ := List.getElem?_eq_some_iff.1 hz
     obtain ⟨d2, -, hat3, hR3⟩ := HCL.out q hql
     rw [hqe] at hR3
     obtain rfl : d2 = cLnk z := hR3
     have hat4 := (hat3.at HKK.out).on (show Below wr.heap.size wr W from (show Below wr.heap.size wr (wr.alloc (.cells (cLnk y) 49)) by exact bl).trans (hW.mono (show Below wr.heap.size wr (wr.alloc (.cells (cLnk y) 49)) by exact bl).size)) HG.out
     have q0 := hat4.get (cLnk0 z)
     rw [Nat.add_zero] at q0
     exact ⟨q0, hat4.get (cLnk1 z)⟩
    have ldU := FM.out (wr.alloc (.cells (cLnk y) 49)) (Below.refl _ _)
    obtain ⟨i1, hi1⟩ : ∃ v, siteI x.si y.fr = v := ⟨_, rfl⟩
    obtain ⟨i2, hi2⟩ : ∃ v, siteI x.si y.tt = v := ⟨_, rfl⟩
    obtain ⟨r, hr⟩ : ∃ v, btw 1 y.de 1000000000 = v := ⟨_, rfl⟩
    have C1 := Lib.hid (fun W hW => CS.out W hW y.fr i1 hi1)
    have C2 := Lib.hid (fun W hW => CS.out W hW y.tt i2 hi2)
    have C3 := Lib.hid (fun W => within_gives hr W)
    have HT : Hid (lnkT x.si y = if i1 < 0 ∨ i2 < 0 then 5 else if y.fr = y.tt then 1 else if r then 0 else 2) := Lib.hid (by unfold lnkT; rw [hi1, hi2, hr])
    clear hcell hds hat hgx hkl hy hbG hp hat2 bt hcsz hG hi1 hi2 hr HCL
    by_cases h1 : i1 < 0
    · have e1 := decide_eq_true h1
      have hT : lnkT x.si y = 5 := by rw [HT.out, if_pos (.inl h1)]
      have HN := Lib.hid (show lnksE x = 5 by rw [HE.out, goE_stop HX.out HA.out (by rw [stepK_bad hT (by decide)]; show ¬ (5 : Int) = 0; decide), stepK_bad hT (by decide)])
      clear h1 hT HT
      go_wp2_with fail
      refine (C1.out _ (by have h := HBW.out; exact bl)).mono ?_
      rintro e v1 ⟨rfl, hb1⟩
      go_wp2_with fail
      go_ret
      exact ⟨ret_int HN.out.symm, by have h := HBW.out; exact bl⟩
    have e1 := decide_eq_false h1
    by_cases h2 : i2 < 0
    · have e2 := decide_eq_true h2
      have hT : lnkT x.si y = 5 := by rw [HT.out, if_pos (.inr h2)]
      have HN := Lib.hid (show lnksE x = 5 by rw [HE.out, goE_stop HX.out HA.out (by rw [stepK_bad hT (by decide)]; show ¬ (5 : Int) = 0; decide), stepK_bad hT (by decide)])
      clear h1 h2 hT HT
      exact zQRlia_0
    have e2 := decide_eq_false h2
    by_cases h3 : y.fr = y.tt
    · have e3 : (y.fr.toList == y.tt.toList) = true := by rw [tx_eq]; exact decide_eq_true h3
      have hT : lnkT x.si y = 1 := by rw [HT.out, if_neg (by omega), if_pos h3]
      have HN := Lib.hid (show lnksE x = 1 by rw [HE.out, goE_stop HX.out HA.out (by rw [stepK_bad hT (by decide)]; show ¬ (1 : Int) = 0; decide), stepK_bad hT (by decide)])
      clear h1 h2 h3 hT HT
      exact zQRlia_0
    have e3 : (y.fr.toList == y.tt.toList) = false := by rw [tx_eq]; exact decide_eq_false h3
    cases r with
    | false =>
     have hT : lnkT x.si y = 2 := by rw [HT.out, if_neg (by omega), if_neg h3]; rfl
     have HN := Lib.hid (show lnksE x = 2 by rw [HE.out, goE_stop HX.out HA.out (by rw [stepK_bad hT (by decide)]; show ¬ (2 : Int) = 0; decide), stepK_bad hT (by decide)])
     clear h1 h2 h3 hT HT
     go_wp2_with fail
     refine (C1.out _ (by have h := HBW.out; exact bl)).mono ?_
     rintro e v1 ⟨rfl, hb1⟩
     have HV1 : Hid (Below (wr.alloc (.cells (cLnk y) 49)).heap.size (wr.alloc (.cells (cLnk y) 49)) v1) := Lib.hid bl
     have ld1 := FM.out v1 HV1.out
     obtain ⟨y0, y1, y2⟩ := FY.out v1 HV1.out
     go_wp2_with fail
     refine (C2.out _ zQRlia_2).mono ?_
     rintro e v2 ⟨rfl, hb2⟩
     have HV2 : Hid (Below (wr.alloc (.cells (cLnk y) 49)).heap.size (wr.alloc (.cells (cLnk y) 49)) v2) := Lib.hid (by have h1 := HV1.out; exact bl)
     clear ld1 y0 y1 y2 hb1 hb2
     have ld2 := FM.out v2 HV2.out
     obtain ⟨y0, y1, y2⟩ := FY.out v2 HV2.out
     go_wp2_with fail
     refine (C3.out _).mono ?_
     rintro e v3 ⟨rfl, rfl⟩
     go_wp2_with fail
     go_ret
     exact ⟨ret_int HN.out.symm, by have h := HBW.out; have h1 := HV2.out; exact bl⟩
    | true =>
     have hT : lnkT x.si y = 0 := by rw [HT.out, if_neg (by omega), if_neg h3]; rfl
     have HS : Hid (stepK x.si ((l.take k).map lnkK) y = if lnkK y ∈ (l.take k).map lnkK then (4, (l.take k).map lnkK) else (0, (l.take k).map lnkK ++ [lnkK y])) := Lib.hid (by unfold stepK; rw [if_pos hT])
     clear h1 h2 h3 hT HT
     go_wp2_with fail
     refine (C1.out _ (by have h := HBW.out; exact bl)).mono ?_
     rintro e v1 ⟨rfl, hb1⟩
     have HV1 : Hid (Below (wr.alloc (.cells (cLnk y) 49)).heap.size (wr.alloc (.cells (cLnk y) 49)) v1) := Lib.hid bl
     have ld1 := FM.out v1 HV1.out
     obtain ⟨y0, y1, y2⟩ := FY.out v1 HV1.out
     go_wp2_with fail
     refine (C2.out _ zQRlia_2).mono ?_
     rintro e v2 ⟨rfl, hb2⟩
     have HV2 : Hid (Below (wr.alloc (.cells (cLnk y) 49)).heap.size (wr.alloc (.cells (cLnk y) 49)) v2) := Lib.hid (by have h1 := HV1.out; exact bl)
     clear ld1 y0 y1 y2 hb1 hb2
     have ld2 := FM.out v2 HV2.out
     obtain ⟨y0, y1, y2⟩ := FY.out v2 HV2.out
     go_wp2_with fail
     refine (C3.out _).mono ?_
     rintro e v3 ⟨rfl, rfl⟩
     go_wp2_with fail
     have HKm := Lib.hid (show k ≤ m from hk)
     have HTK := Lib.hid (show (l.take (k + 1)).map lnkK = (l.take k).map lnkK ++ [lnkK y] by rw [take_one HX.out, List.map_append]; rfl)
     clear y0 y1 y2 ld2 ldU l1 l2 l3 st1 st2 st3 ld0 g3
     obtain ⟨R0, hR0⟩ : ∃ R, wr.heap.size = R := ⟨_, rfl⟩
     rw [hR0] at FY
     try rw [hR0]
     go_loopw [5] (fun i wv => ∃ q : Nat, q ≤ k ∧ i = .int .i64 (q : Nat) ∧ Hid (Below v2.heap.size v2 wv) ∧ Hid (∀ j, j < q → ∀ z, l[j]? = some z → ¬ lnkK z = lnkK y)) (fun i _ => k - (intOf i).toNat)
     case atStart => exact ⟨0, Nat.zero_le _, rfl, Lib.hid (Below.refl _ _), Lib.hid fun j hj => absurd hj (Nat.not_lt_zero _)⟩
     case round =>
      obtain ⟨q, hq, rfl, HV, HP⟩ := hrel
      have q0 : (0 : Int) ≤ (q : Int) := by omega
      have q00 : (q : Int) ≤ 9223372036854775807 := by omega
      have HVU := Lib.hid (show Below _ _ _ from HV2.out.trans (HV.out.mono HV2.out.size))
      rcases Nat.lt_or_ge q k with hqk | hqk
      · have q1 : (q : Int) < (k : Int) := by omega
        have q2 : (q : Int) < (m : Int) := by omega
        have hql : q < l.length := by rw [HL.out]; omega
        obtain ⟨z, hz⟩ : ∃ z, l[q]? = some z := ⟨_, List.getElem?_eq_getElem hql⟩
        have HZ := Lib.hid hz
        obtain ⟨a0, a1⟩ := FL.out _ HVU.out q z hz
        have g3 := FI.out _ HVU.out
        obtain ⟨y0, y1, y2⟩ := FY.out _ HVU.out
        clear hql hz
        by_cases c1 : z.fr = y.fr
        · have f1 : (z.fr.toList == y.fr.toList) = true := by rw [tx_eq]; exact decide_eq_true c1
          by_cases c2 : z.tt = y.tt
          · have f2 : (z.tt.toList == y.tt.toList) = true := by rw [tx_eq]; exact decide_eq_true c2
            have hin : lnkK y ∈ (l.take k).map lnkK := by
             rw [← lnkK_iff.2 ⟨c1, c2⟩]
             exact List.mem_map_of_mem (List.mem_of_getElem? (i := q) (by rw [List.getElem?_take, if_pos hqk]; exact HZ.out))
            have hs : stepK x.si ((l.take k).map lnkK) y = (4, (l.take k).map lnkK) := by rw [HS.out, if_pos hin]
            have HN := Lib.hid (show lnksE x = 4 by rw [HE.out, goE_stop HX.out HA.out (by rw [hs]; show ¬ (4 : Int) = 0; decide), hs])
            clear c1 c2 hin hs
            go_wp2_with fail
            go_quiet (fail)
            go_wp2_with fail
            go_ret
            exact ⟨ret_int HN.out.symm, by have h := HBW.out; have h1 := HVU.out; exact bl⟩
          · have f2 : (z.tt.toList == y.tt.toList) = false := by rw [tx_eq]; exact decide_eq_false c2
            have HP2 : Hid (∀ j, j < q + 1 → ∀ z, l[j]? = some z → ¬ lnkK z = lnkK y) := Lib.hid fun j hj z2 hz2 => by
             by_cases hjq : j = q
             · subst hjq
               rw [HZ.out] at hz2
               obtain rfl := Option.some.inj hz2
               exact fun e => c2 (lnkK_iff.1 e).2
             · exact HP.out j (by omega) z2 hz2
            clear c1 c2
            exact zQRlia_1
        · have f1 : (z.fr.toList == y.fr.toList) = false := by rw [tx_eq]; exact decide_eq_false c1
          have HP2 : Hid (∀ j, j < q + 1 → ∀ z, l[j]? = some z → ¬ lnkK z = lnkK y) := Lib.hid fun j hj z2 hz2 => by
           by_cases hjq : j = q
           · subst hjq
             rw [HZ.out] at hz2
             obtain rfl := Option.some.inj hz2
             exact fun e => c1 (lnkK_iff.1 e).1
           · exact HP.out j (by omega) z2 hz2
          clear c1
          exact zQRlia_1
      · obtain rfl : k = q := by omega
        have hin : ¬ lnkK y ∈ (l.take k).map lnkK := fun hh => by
         obtain ⟨z, hz, he⟩ := List.mem_map.1 hh
         obtain ⟨j, hj, hje⟩ := List.getElem_of_mem hz
         rw [List.length_take] at hj
         rw [List.getElem_take] at hje
         exact HP.out j (by omega) z (by rw [← hje]; exact List.getElem?_eq_getElem _) he
        have hs : stepK x.si ((l.take k).map lnkK) y = (0, (l.take k).map lnkK ++ [lnkK y]) := by rw [HS.out, if_neg hin]
        have HN := Lib.hid (show goE (stepK x.si) (l.take (k + 1)) [] = (0, (l.take (k + 1)).map lnkK) by rw [goE_next HX.out HA.out (by rw [hs]), hs, HTK.out])
        clear hin hs
        go_wp2_with fail
        go_roundw
        case rel => exact ⟨k + 1, by omega, by go_num, Lib.hid (by have h := HBU.out; have h1 := HVU.out; exact bl), HN⟩
        case measure => simp [intOf]; omega
  · obtain rfl : m = k := by omega
    have HT := Lib.hid (show lnksE x = 0 by
     have h1 := HA.out
     rw [List.take_of_length_le (by rw [HL.out]; exact Nat.le_refl _)] at h1
     rw [HE.out, h1])
    go_wp2_with fail
    go_ret
    exact ⟨ret_int HT.out.symm, HBW.out⟩
end Go.Proofs.YtaaffmbnhjaebaaGreat.Md
